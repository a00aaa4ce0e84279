"""Other orders of formulas, chain by chain."""

from figurestay.basics import is_whole_number
from figurestay.errors import NotASum
from figurestay.events import kinds_at
from figurestay.formulas import Formula, need_formula, parts_of
from figurestay.groups import joined_formula, safe_groups
from figurestay.plain import exacts_of
from figurestay.spans import multiple_span
from figurestay.worths import Worth

# The words of the chain that a step belongs to, if it is more than a chain of its own.
CHAINS = {"sum": ("sum", "difference"), "difference": ("sum", "difference"), "product": ("product",)}


def safe_form(shaped):
    """Another order of the formula that is safe, or None."""
    formula, _ = _formed(shaped)
    return formula


def barring(shaped):
    """None if there is a safe order, otherwise the last step of the first chain that has none."""
    _, step = _formed(shaped)
    return step


def spread(formula, step):
    """The formula in which the product at a step is spread over the sum or difference on one side of it."""
    need_formula(formula)
    if not is_whole_number(step) or step >= formula.size or formula.rows[step][0] != "product":
        raise NotASum(step)
    left, right = [formula.part(part) for part in formula.parts(step)]
    word = right.rows[-1][0]
    if word in ("sum", "difference"):
        one, other = [left * right.part(part) for part in right.parts(right.size - 1)]
    else:
        word = left.rows[-1][0]
        if word not in ("sum", "difference"):
            raise NotASum(step)
        one, other = [left.part(part) * right for part in left.parts(left.size - 1)]
    return formula.replaced(step, one + other if word == "sum" else one - other)


def _formed(shaped):
    """The formula in a safe order and None, or None and the last step of the first chain that has none."""
    exacts = exacts_of(shaped)
    inner = _inner_steps(shaped.formula)
    forms = {}
    for step, row in enumerate(shaped.formula.rows):
        if step in inner:
            continue
        if row[0] in CHAINS:
            form = _form_of_chain(exacts, step, forms)
        else:
            form = _form_of_step(exacts, step, forms)
        if form is None:
            return None, step
        forms[step] = form
    return forms[shaped.formula.size - 1], None


def _inner_steps(formula):
    """The steps that are in a chain and not its last one, a dict."""
    inner = {}
    for row in formula.rows:
        for part in parts_of(row):
            if formula.rows[part][0] in CHAINS.get(row[0], ()):
                inner[part] = True
    return inner


def _form_of_chain(exacts, step, forms):
    """The safe order of a chain of terms or factors, or None."""
    rows = exacts.shaped.formula.rows
    word = "product" if rows[step][0] == "product" else "sum"
    members = _members(rows, step, CHAINS[word], 1)
    formulas = [forms[member] for member, _ in members]
    signs = [sign for _, sign in members]
    spans = [multiple_span(exacts.spans[member], Worth(sign)) for member, sign in members]
    shapes = [exacts.shaped.with_formula(form).uncapped[-1] for form in formulas]
    groups = safe_groups(word, spans, shapes, exacts.shaped.dialect, False)
    whole_chain = (1 << len(members)) - 1
    if whole_chain not in groups:
        return None
    form, _ = joined_formula(word, groups, whole_chain, formulas, signs)
    return form


def _members(rows, step, words, sign):
    """The last steps of the terms or factors of a chain, each with its sign."""
    row = rows[step]
    if row[0] not in words:
        return [(step, sign)]
    right = -sign if row[0] == "difference" else sign
    return _members(rows, row[1], words, sign) + _members(rows, row[2], words, right)


def _form_of_step(exacts, step, forms):
    """A step that is a chain of its own over the safe orders of its parts; None if it has an event then."""
    row = exacts.shaped.formula.rows[step]
    parts = [forms[part] for part in parts_of(row)]
    if row[0] == "negative":
        form = -parts[0]
    elif row[0] == "cast":
        form = parts[0].cast(row[2], row[3])
    elif row[0] == "round":
        form = parts[0].rounded(row[2], row[3])
    elif row[0] == "quotient":
        form = parts[0].over(parts[1])
    else:
        form = Formula([row])
    shape = exacts.shaped.with_formula(form).shapes[-1]
    return form if len(kinds_at(exacts, step, shape)) == 0 else None

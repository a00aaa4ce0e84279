"""Plain formulas, with the exact results of their steps."""

from figurestay.errors import NotPlain, NotSteady
from figurestay.shaped import need_shaped
from figurestay.spans import (
    column_span, constant_span, least_scale, multiple_span, product_span, sum_span
)
from figurestay.worths import Worth, inverse


class Exacts:
    """A Shaped, its columns that are varied, and the Span of each step; None for a quotient that must come last."""

    def __init__(self, shaped, varied, spans):
        self.shaped = shaped
        self.varied = varied
        self.spans = spans


def exacts_of(shaped):
    """The Exacts of all steps; NotPlain for the first step that is not as a plain formula asks."""
    need_shaped(shaped)
    return exacts_up_to(shaped, shaped.formula.size - 1)


def exacts_up_to(shaped, last):
    """The Exacts of the steps up to one; NotPlain for the first of them that is not as a plain formula asks."""
    varied = shaped.formula.names()
    spans, standing = [], []
    for step, row in enumerate(shaped.formula.rows[:last + 1]):
        if not _is_as_asked(shaped.formula, step, standing, spans):
            raise NotPlain(step)
        spans.append(_span_of_step(shaped, step, varied, spans))
        standing.append(_columns_behind(row, varied, standing))
    return Exacts(shaped, varied, spans)


def steady_exacts(shaped):
    """The Exacts of all steps; NotPlain, then NotSteady for a quotient or for a round that comes last."""
    exacts = exacts_of(shaped)
    for step, row in enumerate(shaped.formula.rows):
        if row[0] == "quotient":
            raise NotSteady(step)
    if shaped.formula.rows[-1][0] == "round":
        raise NotSteady(shaped.formula.size - 1)
    return exacts


def told_divisor(formula, step):
    """The Worth of a step that is a constant or the negative of one, or None."""
    row = formula.rows[step]
    if row[0] == "constant":
        return Worth(row[1], row[2])
    if row[0] == "negative" and formula.rows[row[1]][0] == "constant":
        return -told_divisor(formula, row[1])
    return None


def corner_worths(exacts, place):
    """The worths of all columns at the corners of a place, a new dict."""
    columns = exacts.shaped.columns()
    ends = {name: (columns[name].lowest(), columns[name].highest()) for name in columns}
    return _chosen_worths(ends, exacts.varied, place)


def small_worths(exacts, place):
    """The small worths of all columns of a place, a new dict."""
    columns = exacts.shaped.columns()
    return _chosen_worths({name: columns[name].small() for name in columns}, exacts.varied, place)


def _chosen_worths(pairs, varied, place):
    worths = {name: pairs[name][0] for name in pairs}
    for bit, name in enumerate(varied):
        worths[name] = pairs[name][(place >> bit) & 1]
    return worths


def _is_as_asked(formula, step, standing, spans):
    """Whether a step is as a plain formula asks, if all steps ahead of it are."""
    row = formula.rows[step]
    is_last = step == formula.size - 1
    if row[0] == "product":
        return standing[row[1]] & standing[row[2]] == 0
    if row[0] in ("cast", "round"):
        scale = row[3] if row[0] == "cast" else row[2]
        return is_last or least_scale(spans[row[1]]) <= scale
    if row[0] != "quotient":
        return True
    if formula.rows[row[2]][0] == "column":
        return is_last and standing[row[1]] & standing[row[2]] == 0
    divisor = told_divisor(formula, row[2])
    return divisor is not None and (is_last or inverse(divisor) is not None)


def _columns_behind(row, varied, standing):
    """The columns that stand in the part formula of a step, as bits."""
    if row[0] == "column":
        return 1 << varied.index(row[1])
    if row[0] == "constant":
        return 0
    if row[0] in ("negative", "cast", "round"):
        return standing[row[1]]
    return standing[row[1]] | standing[row[2]]


def _span_of_step(shaped, step, varied, spans):
    row = shaped.formula.rows[step]
    many = 1 << len(varied)
    if row[0] == "column":
        return column_span(shaped.columns()[row[1]], varied.index(row[1]), many)
    if row[0] == "constant":
        return constant_span(Worth(row[1], row[2]), many)
    one = spans[row[1]]
    if row[0] == "negative":
        return multiple_span(one, Worth(-1))
    if row[0] in ("cast", "round"):
        return one
    if row[0] == "quotient":
        divisor = told_divisor(shaped.formula, row[2])
        return None if divisor is None or inverse(divisor) is None else multiple_span(one, inverse(divisor))
    other = spans[row[2]]
    if row[0] == "product":
        return product_span(one, other)
    return sum_span(one, other if row[0] == "sum" else multiple_span(other, Worth(-1)))

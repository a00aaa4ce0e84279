"""Orders in which the terms of a sum, or the factors of a product, can be worked out safely."""

from figurestay.basics import need_list
from figurestay.events import kinds_at
from figurestay.formulas import need_formula
from figurestay.groups import indexes_of, joined_formula, safe_groups
from figurestay.plain import exacts_of
from figurestay.shaped import Shaped


def least_whole(wholes):
    """The least whole figures of a sum over all orders."""
    whole, _ = _best_order(wholes)
    return whole


def joined(wholes):
    """An order with the least whole figures: an index, or a tuple of two orders."""
    _, order = _best_order(wholes)
    return order


def least_whole_in_row(wholes):
    """The least whole figures of a sum over all ways of putting brackets."""
    whole, _ = _best_brackets(wholes)
    return whole


def joined_in_row(wholes):
    """Brackets with the least whole figures: an index, or a tuple of two orders."""
    _, order = _best_brackets(wholes)
    return order


def best_whole(terms, columns, dialect):
    """The least whole figures with which all terms can be worked out safely, or None."""
    groups = _groups("sum", terms, columns, dialect, False)
    members = _all_of(terms)
    return groups[members].shape.whole if members in groups else None


def safe_sum(terms, columns, dialect):
    """The sum of all terms in an order that is safe, or None."""
    return _safe_formula("sum", terms, columns, dialect, False)


def safe_sum_in_row(terms, columns, dialect):
    """The sum of all terms in their order, with brackets that are safe, or None."""
    return _safe_formula("sum", terms, columns, dialect, True)


def reached(factors, columns, dialect):
    """The sets of two or more factors that can be worked out safely, each a tuple of indexes."""
    groups = _groups("product", factors, columns, dialect, False)
    return sorted([indexes_of(members) for members in groups if groups[members].one != 0])


def safe_product(factors, columns, dialect):
    """The product of all factors in an order that is safe, or None."""
    return _safe_formula("product", factors, columns, dialect, False)


def _best_order(wholes):
    """The least whole figures and an order of them: the two least ones are put together, again and again."""
    left = [(whole, index) for index, whole in enumerate(wholes)]
    while len(left) > 1:
        left = sorted(left, key=lambda told: told[0])
        whole = left[1][0] + 1
        left = [(whole, (left[0][1], left[1][1]))] + left[2:]
    return left[0]


def _best_brackets(wholes):
    """The same with the terms in their order: the best of each stretch of terms, the short ones first."""
    best = {(index, index): (whole, index) for index, whole in enumerate(wholes)}
    for longer in range(1, len(wholes)):
        for first in range(len(wholes) - longer):
            last = first + longer
            pairs = [(best[(first, middle)], best[(middle + 1, last)]) for middle in range(first, last)]
            orders = [(max(one[0], other[0]) + 1, (one[1], other[1])) for one, other in pairs]
            best[(first, last)] = min(orders, key=lambda told: told[0])
    return best[(0, len(wholes) - 1)]


def _all_of(parts):
    """The set of all indexes of a list, as groups.py writes it."""
    return (1 << len(parts)) - 1


def _safe_formula(word, parts, columns, dialect, in_row):
    groups = _groups(word, parts, columns, dialect, in_row)
    members = _all_of(parts)
    if members not in groups:
        return None
    formula, _ = joined_formula(word, groups, members, parts, [1] * len(parts))
    return formula


def _groups(word, parts, columns, dialect, in_row):
    """The safe Groups of some terms or factors; none if one of these is not safe itself."""
    need_list(parts)
    for part in parts:
        need_formula(part)
    line, ends, joins = _in_line(word, parts)
    shaped = Shaped(line, columns, dialect)
    exacts = exacts_of(shaped)
    for step, shape in enumerate(shaped.shapes):
        if step not in joins and len(kinds_at(exacts, step, shape)) > 0:
            return {}
    spans = [exacts.spans[step] for step in ends]
    return safe_groups(word, spans, [shaped.uncapped[step] for step in ends], dialect, in_row)


def _in_line(word, parts):
    """The sum or product from left to right, the last steps of its parts, and the steps that join them."""
    line, ends, joins = parts[0], [parts[0].size - 1], []
    for part in parts[1:]:
        ends.append(line.size + part.size - 1)
        joins.append(line.size + part.size)
        line = line + part if word == "sum" else line * part
    return line, ends, joins

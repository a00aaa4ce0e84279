"""Sets of the terms of a sum, or of the factors of a product, that can be worked out safely.

A set is written as a number with the bits of the indexes that are in it. An order of a set is told by its two halves.
"""

from figurestay.spans import least_scale, least_whole_figures, product_span, sum_span


class Group:
    """A set with a safe order: its uncapped Shape, its Span, and the two sets that it is worked out of, or 0 and 0."""

    def __init__(self, shape, span, one, other):
        self.shape = shape
        self.span = span
        self.one = one
        self.other = other


def safe_groups(word, spans, shapes, dialect, in_row):
    """The Groups of all sets with a safe order, a dict; each of a sum with the least whole figures."""
    groups = {}
    for members in range(1, 1 << len(spans)):
        if members & (members - 1) == 0:
            index = members.bit_length() - 1
            groups[members] = Group(shapes[index], spans[index], 0, 0)
            continue
        group = _best_group(word, groups, members, dialect, in_row)
        if group is not None and not has_event(dialect, group.shape, group.span):
            groups[members] = group
    return groups


def has_event(dialect, uncapped, span):
    """Whether a step with this uncapped Shape loses or is over for some worths, if no step that leads to it does."""
    room = dialect.cap - uncapped.whole
    if least_scale(span) > min(uncapped.scale, max(room, dialect.kept)):
        return True
    kept = min(uncapped.scale, dialect.kept)
    return room < kept and least_whole_figures(span) > dialect.cap - kept


def _best_group(word, groups, members, dialect, in_row):
    """The Group of a set with the fewest whole figures, or None if it has no two halves that are safe."""
    best = None
    for one, other in _halves(members):
        if one in groups and other in groups and (not in_row or _are_neighbours(one, other)):
            shape = dialect.uncut(word, groups[one].shape, groups[other].shape)
            if best is None or shape.whole < best[0].whole:
                best = shape, one, other
    if best is None:
        return None
    shape, one, other = best
    spans = groups[one].span, groups[other].span
    span = sum_span(spans[0], spans[1]) if word == "sum" else product_span(spans[0], spans[1])
    return Group(shape, span, one, other)


def _halves(members):
    """Each way to part a set in two; the first half has the lowest index."""
    rest = members - (members & -members)
    halves, other = [], rest
    while other > 0:
        halves.append((members - other, other))
        other = (other - 1) & rest
    return halves


def _are_neighbours(one, other):
    """Whether the indexes of a set go on where those of another one, that has no gap, end."""
    return 1 << one.bit_length() == other & -other


def indexes_of(members):
    """The indexes that are in a set, an ascending tuple."""
    return tuple([index for index in range(members.bit_length()) if (members >> index) & 1 == 1])


def joined_formula(word, groups, members, formulas, signs):
    """The Formula of a set in its safe order, and its sign: -1 if what it gives is the set's result taken away."""
    group = groups[members]
    if group.one == 0:
        index = members.bit_length() - 1
        return formulas[index], signs[index]
    one, sign = joined_formula(word, groups, group.one, formulas, signs)
    other, other_sign = joined_formula(word, groups, group.other, formulas, signs)
    if word == "product":
        return one * other, 1
    if sign == other_sign:
        return one + other, sign
    return (one - other, 1) if sign == 1 else (other - one, 1)

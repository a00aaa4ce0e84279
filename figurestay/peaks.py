"""Integer programs: the integer point with the greatest worth of a goal while some lines keep their bounds."""

from math import isqrt

from figurestay.lattices import inner, shortened, unit_basis
from figurestay.tables import GOAL, Line, add_line, copied, first_table, settle, size_of


def greatest_point(goal, lines, least):
    """The integer point with the greatest worth of the goal, if that is more than the least one; otherwise None.

    The first lines, as many as there are variables, have both bounds and tell all variables.
    """
    table = first_table(goal, lines)
    if not settle(table, least):
        return None
    bound = size_of(table, GOAL) // table.divisor
    # No point is as near to the bound as empty; one that is nearer than the one that is found is within top.
    empty, top, found = -1, bound - least - 1, None
    while empty < top:
        # A basis shows soonest what is there if it is made for points about as near as the nearest one.
        gap = min((empty + 1) * 1000, top)
        if found is not None:
            gap = isqrt((empty + 1) * (top + 1))
        if found is not None and (gap <= empty or top <= 8 * (empty + 1)):
            return _last_point(table, len(goal), bound - top - 1, True) or found
        point = _last_point(table, len(goal), bound - gap - 1, False)
        if point is None:
            empty = gap
        else:
            found, top = point, bound - inner(goal, point) - 1
    return found


def any_point(goal, lines, least):
    """An integer point at which the goal is more than the least one; None if there is none."""
    table = first_table(goal, lines)
    return _last_point(table, len(goal), least, False)


def _last_point(table, many, least, to_the_end):
    """The first integer point that is found with a goal above the least one, or, to the end, the greatest; or None."""
    best, waiting = None, [(copied(table), unit_basis(many))]
    while len(waiting) > 0:
        table, basis = waiting.pop()
        if not settle(table, least):
            continue
        point = [size_of(table, 1 + place) for place in range(many)]
        if all([size % table.divisor == 0 for size in point]):
            best, least = [size // table.divisor for size in point], size_of(table, GOAL) // table.divisor
            if not to_the_end:
                return best
            continue
        basis = shortened(basis, [table.lines[number].form for number in table.standing], _weights(table, least))
        for branch in _branches(table, basis):
            waiting.append((branch, basis))
    return best


def _weights(table, least):
    """The weight of each standing line: the less it can give way, the more it counts."""
    room = size_of(table, GOAL) - (least + 1) * table.divisor
    sizes = []
    for place, number in enumerate(table.standing):
        line, loss = table.lines[number], abs(table.cells[GOAL][place])
        size = None
        if line.low is not None and line.high is not None:
            size = line.high - line.low
        if loss > 0 and (size is None or room // loss < size):
            size = room // loss
        sizes.append(size)
    most = max([size for size in sizes if size is not None], default=0)
    return [64 * (most + 1) // ((most if size is None else size) + 1) for size in sizes]


def _branches(table, basis):
    """Two tables without the point at which the table stands, but with all integer points; the nearer one last."""
    for form in reversed(basis.forms):
        add_line(table, Line(form))
        number = len(table.lines) - 1
        below, left = divmod(size_of(table, number), table.divisor)
        if left != 0:
            break
        table.lines.pop()
        table.cells.pop()
    other = copied(table)
    table.lines[number] = Line(form, high=below)
    other.lines[number] = Line(form, low=below + 1)
    return [table, other] if 2 * left >= table.divisor else [other, table]

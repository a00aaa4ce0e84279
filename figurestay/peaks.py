"""Integer programs: the integer point with the greatest worth of a goal while some lines keep their bounds."""

from math import isqrt

from figurestay.lattices import inner, shortened, unit_basis, without_vector
from figurestay.tables import Line, copied, draw_in, first_table, height_of, point_of, settle, with_line


def greatest_point(goal, lines, least):
    """The integer point with the greatest worth of the goal, if that is more than the least one; otherwise None.

    The first lines, as many as there are variables, have both bounds and tell all variables.
    """
    table = first_table(goal, lines)
    if not settle(table, least):
        return None
    bound = height_of(table) // table.divisor
    # No point is as near to the bound as empty; one that is nearer than the one that is found is within top.
    empty, top, found = -1, bound - least - 1, None
    while empty < top:
        # A basis shows soonest what is there if it is made for points about as near as the nearest one.
        gap = min((empty + 1) * 1000, top)
        if found is not None:
            gap = isqrt((empty + 1) * (top + 1))
        if found is not None and (gap <= empty or top <= 8 * (empty + 1)):
            return _last_point(table, len(goal), bound - top - 1, True) or found
        point = _last_point(table, len(goal), bound - gap - 1, False)
        if point is None:
            empty = gap
        else:
            found, top = point, bound - inner(goal, point) - 1
    return found


def any_point(goal, lines, least):
    """An integer point at which the goal is more than the least one; None if there is none."""
    table = first_table(goal, lines)
    return _last_point(table, len(goal), least, False)


def _last_point(table, many, least, to_the_end):
    """The first integer point that is found with a goal above the least one, or, to the end, the greatest; or None."""
    best, waiting = None, [(copied(table), unit_basis(many))]
    while len(waiting) > 0:
        table, basis = waiting.pop()
        if not settle(table, least):
            continue
        point = point_of(table)
        if all([size % table.divisor == 0 for size in point]):
            best, least = [size // table.divisor for size in point], height_of(table) // table.divisor
            if not to_the_end:
                return best
            continue
        draw_in(table, least)
        basis = shortened(basis, [table.lines[number].form for number in table.standing], _weights(table))
        waiting.extend(_branches(table, point, basis))
    return best


def _weights(table):
    """The weight of each standing line: the less it can give way, the more it counts."""
    sizes = []
    for number in table.standing:
        line = table.lines[number]
        sizes.append(None if line.low is None or line.high is None else line.high - line.low)
    most = max([size for size in sizes if size is not None], default=0)
    return [64 * (most + 1) // ((most if size is None else size) + 1) for size in sizes]


def _branches(table, point, basis):
    """Tables, with their bases, without the point at which the table stands, but with all integer points.

    Those with the points on the nearest layers come last, the nearest one at the end; a layer has one vector less.
    """
    for place in range(len(basis.forms) - 1, -1, -1):
        form = basis.forms[place]
        below, left = divmod(inner(form, point), table.divisor)
        if left != 0:
            break
    layer = without_vector(basis, place)
    lines = [(Line(form, low=below + 2), basis), (Line(form, high=below - 1), basis)]
    near = [(Line(form, below + 1, below + 1), layer), (Line(form, below, below), layer)]
    if 2 * left >= table.divisor:
        lines, near = [lines[1], lines[0]], [near[1], near[0]]
    return [(with_line(table, line), told) for line, told in lines + near]

"""The greatest and the least worth of a Mix over all worths of the columns."""

from math import isqrt

from figurestay.mixes import times_worth
from figurestay.peaks import any_point, smaller_regions, view_of
from figurestay.programs import Program, parts_by_cases
from figurestay.regions import with_line
from figurestay.tables import Line, first_table, top_of
from figurestay.worths import Worth

# So many choices of worths are tried ahead of a search; a prime number, so that no two columns go in step.
TRIES = 29

# What is left to be searched is searched at once when it is at most so many times what is known to be empty.
LAST_STRETCH = 4


def least_of(drops, mix):
    """The least worth of a Mix, and worths of the columns that matter at which it occurs."""
    worth, worths = greatest_of(drops, times_worth(mix, Worth(-1)))
    return -worth, worths


def greatest_of(drops, mix):
    """The greatest worth of a Mix, and worths of the columns that matter at which it occurs."""
    program = Program(drops, mix)
    worths = {name: drops.reaches[name].bounds()[1] for name in program.columns()}
    if len(worths) > 0:
        worths = _greatest_from(program, worths)
    return program.worth_at(worths), worths


def some_not_0(drops, mix):
    """Worths of the columns that matter at which a Mix is not 0; None if it is always 0."""
    program = Program(drops, mix)
    # What is not always 0 is mostly found by trying a few worths.
    for number in range(TRIES):
        worths = _spread_worths(program, number)
        if program.worth_at(worths).sign() != 0:
            return worths
    worths = _worths_above_0(program)
    if worths is None:
        worths = _worths_above_0(Program(drops, times_worth(mix, Worth(-1))))
    return worths


def _spread_worths(program, number):
    """One of the choices of worths that are spread over those of the columns, the least ones first."""
    worths = {}
    for place, name in enumerate(program.columns()):
        reach = program.drops.reaches[name]
        part = number * (7 * place + 1) % TRIES
        worths[name] = Worth(reach.low + (reach.high - reach.low) * part // (TRIES - 1), reach.scale)
    return worths


def _worths_above_0(program):
    """Worths at which the Mix is above 0; None if there are none."""
    rest_worth, unit = program.mix.rest_worth, program.unit
    scale = max(rest_worth.scale, unit.scale)
    return _searched(program, -rest_worth.units_at(scale) // unit.units_at(scale) + 1, None, False)


def _greatest_from(program, worths):
    """The worths at which the goal is greatest, which may be those that are known."""
    table = first_table(program.region.lines, len(program.needed))
    bound = top_of(table, program.goal).worth
    clear, best = bound + 1, program.height_at(worths)
    while best + 1 < clear:
        # So many heights from the bound down are known to be empty; a search a good deal farther down costs little.
        empty = bound + 1 - clear
        is_last = bound - best <= LAST_STRETCH * (empty + 1)
        least = best + 1 if is_last else bound - max(empty, isqrt(empty * (bound - best)))
        found = _searched(program, least, clear - 1, is_last)
        if found is None:
            clear = least
        else:
            worths, best = found, program.height_at(found)
            if is_last:
                return worths
    return worths


def _searched(program, least, most, to_the_end):
    """Worths with a goal within these bounds, at the end the greatest one; None if there are none."""
    best, waiting = None, [program.region]
    while len(waiting) > 0:
        view = view_of(with_line(waiting.pop(), Line(program.goal, least, most)))
        if view is None:
            continue
        point, parts = _point_and_parts(program, view, to_the_end)
        if point is not None:
            # All rounding is left open that no Case told; so the goal can be too great at a point, never too little.
            worths = program.worths_of(point)
            height = program.height_at(worths)
            if height >= least:
                best, least = worths, height + 1
                if not to_the_end:
                    return best
            wrong = program.first_wrong(point)
            if wrong is not None:
                parts = parts_by_cases(program, view.region, wrong)
        waiting.extend(parts)
    return best


def _point_and_parts(program, view, to_the_end):
    """A point of a View, or None, and Regions that together have all its points."""
    point = view.point_below_top(program.goal) if to_the_end else view.point()
    if point is not None:
        return point, [view.region]
    if not view.is_thin():
        # Here Cases are told apart ahead of the layers, which are many.
        point = any_point(view.region)
        if point is None:
            return None, []
    return point, smaller_regions(view)

"""The greatest and the least worth of a Mix over all worths of the columns."""

from figurestay.basics import ten_to
from figurestay.folds import SIDES
from figurestay.mixes import is_of_result, result_at, sorted_keys, times_worth, unit_of
from figurestay.peaks import any_point, greatest_point
from figurestay.tables import Line
from figurestay.worths import Worth

# So many choices of worths are tried ahead of a search; a prime number, so that no two columns go in step.
TRIES = 29


class Case:
    """Bounds for what is dropped, if the result is on one side of 0 and is a multiple of so many units.

    The side is 1 for results from 0 on, -1 for those up to 0, 0 for all.
    """

    def __init__(self, low, high, side, step):
        self.low = low
        self.high = high
        self.side = side
        self.step = step


class Program:
    """A Mix whose greatest worth is looked for: its variables, and the goal in units of one scale."""

    def __init__(self, drops, mix):
        self.drops = drops
        self.needed = _keys_behind(drops, mix)
        self.scale = drops.places_of(mix)
        self.mix = mix
        self.rest_units = mix.rest_worth.units_at(self.scale)


def least_of(drops, mix):
    """The least worth of a Mix, and worths of the columns that matter at which it occurs."""
    worth, worths = greatest_of(drops, times_worth(mix, Worth(-1)))
    return -worth, worths


def greatest_of(drops, mix):
    """The greatest worth of a Mix, and worths of the columns that matter at which it occurs."""
    program = Program(drops, mix)
    worths = {key: drops.reaches[key].bounds()[1] for key in program.needed if not is_of_result(key)}
    better = _worths_above(program, _units_at(program, worths), True)
    if better is not None:
        worths = better
    return Worth(_units_at(program, worths), program.scale), worths


def some_not_0(drops, mix):
    """Worths of the columns that matter at which a Mix is not 0; None if it is always 0."""
    program = Program(drops, mix)
    # What is not always 0 is mostly found by trying a few worths.
    for number in range(TRIES):
        worths = _spread_worths(program, number)
        if _units_at(program, worths) != 0:
            return worths
    worths = _worths_above(program, 0, False)
    if worths is None:
        worths = _worths_above(Program(drops, times_worth(mix, Worth(-1))), 0, False)
    return worths


def _spread_worths(program, number):
    """One of the choices of worths that are spread over those of the columns, the least ones first."""
    worths = {}
    for place, key in enumerate(program.needed):
        if not is_of_result(key):
            reach = program.drops.reaches[key]
            part = number * (7 * place + 1) % TRIES
            worths[key] = Worth(reach.low + (reach.high - reach.low) * part // (TRIES - 1), reach.scale)
    return worths


def _worths_above(program, units, to_the_end):
    """Worths at which the Mix is more than so many units, at the end the greatest ones; None if there are none."""
    best = None
    waiting = [{key: _cases_of(program.drops, key) for key in program.needed if is_of_result(key)}]
    while len(waiting) > 0:
        cases = waiting.pop()
        # All rounding is left open that the cases leave open; so what is found can be too great, never too little.
        found = _open_point(program, cases, units, to_the_end)
        if found is None:
            continue
        worths = {key: found[key] for key in found if not is_of_result(key)}
        if _units_at(program, worths) > units:
            best, units = worths, _units_at(program, worths)
            if not to_the_end:
                return best
        wrong = _first_wrong(program.drops, found, worths)
        if wrong is not None:
            for case in cases[wrong]:
                waiting.append({**cases, wrong: [case]})
    return best


def _keys_behind(drops, mix):
    """The keys of all variables that a Mix depends on: those of columns, then those of drops in their order."""
    needed = {key: True for key in mix.factors}
    for key in range(len(drops.drops) - 1, -1, -1):
        if key in needed:
            needed = {**needed, **{other: True for other in drops.drops[key].mix.factors}}
    return sorted_keys(needed)


def _units_at(program, worths):
    """What the Mix comes to at the worths of the columns, in units of the program's scale."""
    found = _results_at(program.drops, worths, program.needed)
    return result_at(program.mix, found).units_at(program.scale)


def _results_at(drops, worths, keys):
    """The Worths of the variables with these keys at the worths of the columns."""
    found = dict(worths)
    for key in keys:
        if is_of_result(key):
            found[key] = drops.result_of(key, found)
    return found


def _first_wrong(drops, found, worths):
    """The first drop that is not found as its worths would have it, or None."""
    keys = [key for key in found if is_of_result(key)]
    results = _results_at(drops, worths, keys)
    for key in keys:
        if results[key] != found[key]:
            return key
    return None


def _cases_of(drops, key):
    """The Cases of a drop; together they are all that can happen."""
    told = drops.drops[key]
    one = ten_to(told.places - told.scale)
    half = one // 2
    if told.way == "floor":
        return [Case(0, one - 1, 0, 1)]
    if told.way == "halfeven":
        return [Case(1 - half, half - 1, 0, 1), Case(-half, half, 0, 2)]
    bounds = {
        "floor": (0, one - 1),
        "ceiling": (1 - one, 0),
        "halfup": (-half, half - 1),
        "halfdown": (1 - half, half),
    }
    above, below = [bounds[way] for way in SIDES[told.way]]
    return [Case(above[0], above[1], 1, 1), Case(below[0], below[1], -1, 1)]


def _open_point(program, cases, units, to_the_end):
    """The Worths of all variables at the point that is found with more than so many units, or None."""
    reaches, keys = program.drops.reaches, program.needed
    steps = [cases[key][0].step if key in cases and len(cases[key]) == 1 else 1 for key in keys]
    lines, more = [], []
    for place, key in enumerate(keys):
        own = [steps[place] if place == other else 0 for other in range(len(keys))]
        if not is_of_result(key):
            lines.append(Line(own, reaches[key].low, reaches[key].high))
        else:
            lines.append(_dropped_line(program, key, cases[key], steps, own))
            more.extend(_sign_lines(program, key, cases[key], steps))
    goal, least = _form_of(program, program.mix, program.scale, steps), units - program.rest_units
    if to_the_end:
        point = greatest_point(goal, lines + more, least)
    else:
        point = any_point(goal, lines + more, least)
    if point is None:
        return None
    return {key: Worth(number * step, reaches[key].scale) for key, number, step in zip(keys, point, steps)}


def _dropped_line(program, key, cases, steps, own):
    """The Line of what a drop drops: it lies between the bounds of its Cases."""
    told = program.drops.drops[key]
    one = ten_to(told.places - told.scale)
    form = [number - one * part for number, part in zip(_form_of(program, told.mix, told.places, steps), own)]
    rest_units = told.mix.rest_worth.units_at(told.places)
    low, high = min([case.low for case in cases]), max([case.high for case in cases])
    return Line(form, low - rest_units, high - rest_units)


def _sign_lines(program, key, cases, steps):
    """The Line that keeps the sign of what is rounded, if one Case is left and asks for it, in a list."""
    told = program.drops.drops[key]
    if len(cases) > 1 or cases[0].side == 0:
        return []
    form = _form_of(program, told.mix, told.places, steps)
    rest_units = told.mix.rest_worth.units_at(told.places)
    if cases[0].side > 0:
        return [Line(form, low=-rest_units)]
    return [Line(form, high=-rest_units)]


def _form_of(program, mix, scale, steps):
    """The numbers of units of a scale that so many units of each variable add to a Mix."""
    form = []
    for key, step in zip(program.needed, steps):
        if key in mix.factors:
            form.append(unit_of(program.drops.reaches[key], mix.factors[key]).units_at(scale) * step)
        else:
            form.append(0)
    return form

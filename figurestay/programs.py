"""Programs: a Mix and its variables as integers, with the lines that tell what is dropped."""

from math import gcd

from figurestay.basics import ten_to
from figurestay.folds import SIDES
from figurestay.lattices import unit_vectors
from figurestay.mixes import is_of_result, result_at, sorted_keys, unit_of
from figurestay.regions import region_of, with_even, with_line
from figurestay.tables import Line
from figurestay.worths import Worth


class Case:
    """Bounds for what is dropped, if the result is on one side of 0, and is an even number of units if that is asked.

    The side is 1 for results from 0 on, -1 for those up to 0, 0 for all.
    """

    def __init__(self, low, high, side, is_even):
        self.low = low
        self.high = high
        self.side = side
        self.is_even = is_even


class Program:
    """A Mix as a rest and so many of a unit; this number is the goal, a form of the variables.

    The region has all points at which the results could be so if they alone are looked at.
    """

    def __init__(self, drops, mix):
        self.drops = drops
        self.mix = mix
        self.needed = _keys_behind(drops, mix)
        scale = drops.places_of(mix)
        form = _form_of(self, mix, scale)
        common = 0
        for number in form:
            common = gcd(common, number)
        self.unit = Worth(max(common, 1), scale)
        self.goal = [number // max(common, 1) for number in form]
        lines = []
        for place, key in enumerate(self.needed):
            if is_of_result(key):
                lines.append(_dropped_line(self, place, cases_of(drops.drops[key])))
            else:
                reach = drops.reaches[key]
                lines.append(Line(unit_vectors(len(self.needed))[place], reach.low, reach.high))
        self.region = region_of(lines, len(self.needed))

    def columns(self):
        """The names of the columns that matter."""
        return [key for key in self.needed if not is_of_result(key)]

    def worth_at(self, worths):
        """What the Mix comes to at the worths of the columns."""
        return result_at(self.mix, self._results_at(worths))

    def height_at(self, worths):
        """The goal at the worths of the columns."""
        more, unit = self.worth_at(worths) - self.mix.rest_worth, self.unit
        scale = max(more.scale, unit.scale)
        return more.units_at(scale) // unit.units_at(scale)

    def worths_of(self, point):
        """The worths of the columns at a point."""
        worths = [Worth(units, self.drops.reaches[key].scale) for key, units in zip(self.needed, point)]
        return {key: worth for key, worth in zip(self.needed, worths) if not is_of_result(key)}

    def first_wrong(self, point):
        """The place of the first result at a point that is not what the worths of the columns give; None if all are."""
        results = self._results_at(self.worths_of(point))
        for place, key in enumerate(self.needed):
            if results[key].units_at(self.drops.reaches[key].scale) != point[place]:
                return place
        return None

    def _results_at(self, worths):
        """The Worths of all variables at the worths of the columns."""
        found = dict(worths)
        for key in self.needed:
            if is_of_result(key):
                found[key] = self.drops.result_of(key, found)
        return found


def cases_of(told):
    """The Cases of a Drop; together they are all that can happen."""
    one = ten_to(told.places - told.scale)
    half = one // 2
    if told.way == "floor":
        return [Case(0, one - 1, 0, False)]
    if told.way == "halfeven":
        return [Case(1 - half, half - 1, 0, False), Case(-half, half, 0, True)]
    bounds = {
        "floor": (0, one - 1),
        "ceiling": (1 - one, 0),
        "halfup": (-half, half - 1),
        "halfdown": (1 - half, half),
    }
    above, below = [bounds[way] for way in SIDES[told.way]]
    return [Case(above[0], above[1], 1, False), Case(below[0], below[1], -1, False)]


def parts_by_cases(program, region, place):
    """The parts of a Region in which the result in a place is as one of its Cases asks."""
    told = program.drops.drops[program.needed[place]]
    parts = []
    for case in cases_of(told):
        part = with_line(region, _dropped_line(program, place, [case]))
        if case.side != 0:
            part = with_line(part, _sign_line(program, told, case.side))
        if case.is_even:
            part = with_even(part, place)
        if part is not None:
            parts.append(part)
    return parts


def _keys_behind(drops, mix):
    """The keys of all variables that a Mix depends on: those of columns, then those of drops in their order."""
    needed = {key: True for key in mix.factors}
    for key in range(len(drops.drops) - 1, -1, -1):
        if key in needed:
            needed = {**needed, **{other: True for other in drops.drops[key].mix.factors}}
    return sorted_keys(needed)


def _dropped_line(program, place, cases):
    """The Line of what the result in a place drops: it lies between the bounds of these Cases."""
    told = program.drops.drops[program.needed[place]]
    form = _form_of(program, told.mix, told.places)
    form[place] = -ten_to(told.places - told.scale)
    rest_units = told.mix.rest_worth.units_at(told.places)
    low, high = min([case.low for case in cases]), max([case.high for case in cases])
    return Line(form, low - rest_units, high - rest_units)


def _sign_line(program, told, side):
    """The Line that keeps what a Drop rounds on one side of 0."""
    form = _form_of(program, told.mix, told.places)
    rest_units = told.mix.rest_worth.units_at(told.places)
    if side > 0:
        return Line(form, low=-rest_units)
    return Line(form, high=-rest_units)


def _form_of(program, mix, scale):
    """The numbers of units of a scale that one unit of each variable adds to a Mix."""
    reaches = program.drops.reaches
    return [
        unit_of(reaches[key], mix.factors[key]).units_at(scale) if key in mix.factors else 0 for key in program.needed
    ]

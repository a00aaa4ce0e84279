"""Linear formulas as sums over their columns and over the results of the steps that drop places.

What drops places is a variable of its own, with its number among all that do as its key; so all that is left between
these results is linear. A column has its name as its key.
"""

from figurestay.formulas import parts_of
from figurestay.linear import straights_of
from figurestay.ways import rounded
from figurestay.worths import Worth, compare, inverse


class Mix:
    """A multiplier for each variable, none of them 0, and a rest."""

    def __init__(self, factors, rest_worth):
        self.factors = {key: factors[key] for key in factors if factors[key].units != 0}
        self.rest_worth = rest_worth


class Drop:
    """A Mix that is rounded to a scale; its own results can have so many places."""

    def __init__(self, mix, places, scale, way):
        self.mix = mix
        self.places = places
        self.scale = scale
        self.way = way


class Reach:
    """The least and the greatest number of units of a scale that a variable can have."""

    def __init__(self, low, high, scale):
        self.low = low
        self.high = high
        self.scale = scale

    def bounds(self):
        """The least and the greatest Worth."""
        return Worth(self.low, self.scale), Worth(self.high, self.scale)


class Drops:
    """All variables of one or more formulas over the same columns, told as Reaches."""

    def __init__(self, reaches):
        self.reaches = dict(reaches)
        self.drops = []

    def rounded_mix(self, mix, scale, way):
        """The Mix to which a Mix is rounded: the same one, a worth, or a variable."""
        places = self.places_of(mix)
        if places <= scale:
            return mix
        if len(mix.factors) == 0:
            return Mix({}, rounded(mix.rest_worth, scale, way))
        return Mix({self._key_of(Drop(mix, places, scale, way)): Worth(1)}, Worth(0))

    def places_of(self, mix):
        """How many places a Mix can have."""
        scales = [unit_of(self.reaches[key], mix.factors[key]).scale for key in mix.factors]
        return max(scales + [mix.rest_worth.scale])

    def range_of(self, mix):
        """A Worth that a Mix is never below, and one that it is never above."""
        low = high = mix.rest_worth
        for key in mix.factors:
            one, other = [end * mix.factors[key] for end in self.reaches[key].bounds()]
            if compare(one, other) > 0:
                one, other = other, one
            low, high = low + one, high + other
        return low, high

    def result_of(self, key, worths):
        """The result of a drop at the worths of all variables ahead of it."""
        told = self.drops[key]
        return rounded(result_at(told.mix, worths), told.scale, told.way)

    def _key_of(self, told):
        """The key of a Drop; the same one if there is one alike."""
        for key, known in enumerate(self.drops):
            if is_alike(told.mix, known.mix) and (told.scale, told.way) == (known.scale, known.way):
                return key
        self.drops.append(told)
        ends = [rounded(end, told.scale, told.way).units_at(told.scale) for end in self.range_of(told.mix)]
        self.reaches[len(self.drops) - 1] = Reach(ends[0], ends[1], told.scale)
        return len(self.drops) - 1


def column_reach(told):
    """The Reach of a Column."""
    scale = told.shape.scale
    return Reach(told.lowest().units_at(scale), told.highest().units_at(scale), scale)


def unit_of(reach, factor):
    """What one unit of a variable comes to, times a multiplier."""
    return factor * Worth(1, reach.scale)


def is_alike(one, other):
    """Whether two Mixes have the same multipliers and the same rest."""
    return one.factors == other.factors and one.rest_worth == other.rest_worth


def mixed(one, other, times):
    """The Mix of one and of another one times a Worth."""
    factors = dict(one.factors)
    for key in other.factors:
        factors[key] = factors.get(key, Worth(0)) + other.factors[key] * times
    return Mix(factors, one.rest_worth + other.rest_worth * times)


def result_at(mix, worths):
    """What a Mix comes to at the worths of its variables."""
    result = mix.rest_worth
    for key in mix.factors:
        result = result + worths[key] * mix.factors[key]
    return result


class Steps:
    """The raw results and the results of all steps of a linear Shaped, as Mixes."""

    def __init__(self, raws, results):
        self.raws = raws
        self.results = results


def steps_of(shaped, drops):
    """The Steps of a Shaped, whose columns are in the Drops; NotLinear for the first step that is not linear."""
    straights = straights_of(shaped)
    raws, results = [], []
    for step, row in enumerate(shaped.formula.rows):
        if len(straights[step].factors) == 0:
            raw = result = Mix({}, straights[step].rest_worth)
        else:
            raw = _raw_mix(row, [results[part] for part in parts_of(row)], [straights[part] for part in parts_of(row)])
            result = _result_of(shaped, step, raw, drops)
        raws.append(raw)
        results.append(result)
    return Steps(raws, results)


def straight_mix(shaped):
    """The straight result of the last step, as a Mix."""
    straight = straights_of(shaped)[-1]
    return Mix(straight.factors, straight.rest_worth)


def _result_of(shaped, step, raw, drops):
    row = shaped.formula.rows[step]
    if row[0] == "round":
        return drops.rounded_mix(raw, row[2], row[3])
    return drops.rounded_mix(raw, shaped.shapes[step].scale, shaped.dialect.way)


def _raw_mix(row, parts, straights):
    """What a step in which a column stands makes of its parts."""
    word, zero = row[0], Mix({}, Worth(0))
    if word == "column":
        return Mix({row[1]: Worth(1)}, Worth(0))
    if word in ("sum", "difference"):
        return mixed(parts[0], parts[1], Worth(1 if word == "sum" else -1))
    if word == "quotient":
        return mixed(zero, parts[0], inverse(straights[1].rest_worth))
    if word == "product":
        one, other = parts
        if len(straights[0].factors) == 0:
            one, other = other, one
        return mixed(zero, one, other.rest_worth)
    return mixed(zero, parts[0], Worth(-1 if word == "negative" else 1))

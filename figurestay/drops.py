"""Linear formulas as sums over their columns and over the results of the steps that drop places.

What drops places is a variable of its own, with its number among all that do as its key; so all that is left between
these results is linear.
"""

from figurestay.folds import folded, simplest
from figurestay.formulas import parts_of
from figurestay.linear import straights_of
from figurestay.mixes import Mix, Reach, added, is_alike, mixed, result_at, times_worth, units_in
from figurestay.ways import rounded
from figurestay.worths import Worth, compare, inverse


class Drop:
    """A Mix that is rounded to a scale, with its Fold; its own results can have so many places."""

    def __init__(self, mix, places, scale, way, fold):
        self.mix = mix
        self.places = places
        self.scale = scale
        self.way = way
        self.fold = fold

    def changes(self):
        """The ends of what the rounding adds."""
        one = Worth(1, self.scale)
        if self.way == "floor":
            return Worth(1, self.places) - one, Worth(0)
        if self.way in ("cut", "away"):
            return -one, one
        return one * Worth(-5, 1), one * Worth(5, 1)


class Drops:
    """All variables of one or more formulas over the same columns, told as Reaches."""

    def __init__(self, reaches):
        self.reaches = dict(reaches)
        self.drops = []

    def rounded_mix(self, mix, scale, way):
        """The Mix to which a Mix is rounded: the same one, a worth, or one with another variable."""
        if self.places_of(mix) <= scale:
            return mix
        if len(mix.factors) == 0:
            return Mix({}, rounded(mix.rest_worth, scale, way))
        mix, way = simplest(self, mix, scale, way)
        if self.places_of(mix) <= scale:
            return mix
        fold = folded(self, mix, scale, way)
        if len(fold.mix.factors) == 0:
            return added(fold.more, rounded(fold.mix.rest_worth, scale, way) * fold.turn)
        key = self._key_of(Drop(mix, self.places_of(mix), scale, way, fold))
        known = self.drops[key].fold
        # Both are the same multiple of what the folded Mix is rounded to, and something more.
        turn = Worth(fold.turn * known.turn)
        return mixed(mixed(fold.more, Mix({key: Worth(1)}, Worth(0)), turn), known.more, -turn)

    def places_of(self, mix):
        """How many places a Mix can have."""
        return max([unit.scale for unit in units_in(self.reaches, mix)] + [mix.rest_worth.scale])

    def range_of(self, mix):
        """A Worth that a Mix is never below, and one that it is never above."""
        low, high = self._sum_of_ends(mix)
        # The same with what is rounded in the place of each result.
        less = more = Worth(0)
        for key in range(len(self.drops) - 1, -1, -1):
            if key in mix.factors:
                told, factor = self.drops[key], mix.factors[key]
                one, other = _in_order([end * factor for end in told.changes()])
                less, more = less + one, more + other
                mix = mixed(mixed(mix, Mix({key: factor}, Worth(0)), Worth(-1)), told.mix, factor)
        one, other = self._sum_of_ends(mix)
        one, other = one + less, other + more
        return (one if compare(one, low) > 0 else low), (other if compare(other, high) < 0 else high)

    def _sum_of_ends(self, mix):
        """The ends of a Mix if its variables were free within their Reaches."""
        low = high = mix.rest_worth
        for key in mix.factors:
            one, other = _in_order([end * mix.factors[key] for end in self.reaches[key].bounds()])
            low, high = low + one, high + other
        return low, high

    def result_of(self, key, worths):
        """The result of a drop at the worths of all variables ahead of it."""
        told = self.drops[key]
        return rounded(result_at(told.mix, worths), told.scale, told.way)

    def _key_of(self, told):
        """The key of a Drop, or of one that folds alike if there is one."""
        for key, known in enumerate(self.drops):
            if is_alike(told.fold.mix, known.fold.mix) and (told.scale, told.way) == (known.scale, known.way):
                return key
        self.drops.append(told)
        ends = [rounded(end, told.scale, told.way).units_at(told.scale) for end in self.range_of(told.mix)]
        self.reaches[len(self.drops) - 1] = Reach(ends[0], ends[1], told.scale)
        return len(self.drops) - 1


def _in_order(ends):
    """Two Worths, the lesser one first."""
    one, other = ends
    return (one, other) if compare(one, other) <= 0 else (other, one)


class Steps:
    """The raw results and the results of all steps of a linear Shaped, as Mixes."""

    def __init__(self, raws, results):
        self.raws = raws
        self.results = results


def steps_of(shaped, drops):
    """The Steps of a Shaped, whose columns are in the Drops; NotLinear for the first step that is not linear."""
    straights = straights_of(shaped)
    raws, results = [], []
    for step, row in enumerate(shaped.formula.rows):
        if len(straights[step].factors) == 0:
            raw = result = Mix({}, straights[step].rest_worth)
        else:
            raw = _raw_mix(row, [results[part] for part in parts_of(row)], [straights[part] for part in parts_of(row)])
            result = _result_of(shaped, step, raw, drops)
        raws.append(raw)
        results.append(result)
    return Steps(raws, results)


def straight_mix(shaped):
    """The straight result of the last step, as a Mix."""
    straight = straights_of(shaped)[-1]
    return Mix(straight.factors, straight.rest_worth)


def _result_of(shaped, step, raw, drops):
    row = shaped.formula.rows[step]
    if row[0] == "round":
        return drops.rounded_mix(raw, row[2], row[3])
    return drops.rounded_mix(raw, shaped.shapes[step].scale, shaped.dialect.way)


def _raw_mix(row, parts, straights):
    """What a step in which a column stands makes of its parts."""
    word = row[0]
    if word == "column":
        return Mix({row[1]: Worth(1)}, Worth(0))
    if word in ("sum", "difference"):
        return mixed(parts[0], parts[1], Worth(1 if word == "sum" else -1))
    if word == "quotient":
        return times_worth(parts[0], inverse(straights[1].rest_worth))
    if word == "product":
        one, other = parts
        if len(straights[0].factors) == 0:
            one, other = other, one
        return times_worth(one, other.rest_worth)
    return times_worth(parts[0], Worth(-1 if word == "negative" else 1))

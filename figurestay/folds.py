"""Roundings of Mixes, brought to as few forms as can be, so that those that are always alike are seen to be so.

By floor, what is always a multiple of a unit of the scale may be added behind the rounding as well as ahead of it; so
it may by ceiling, halfup and halfdown, which are floor if something is added first. By halfeven this holds for what is
always a multiple of two units. The other ways are one of these four where results do not change their sign.
"""

from figurestay.basics import ten_to
from figurestay.mixes import (
    Mix, added, common_unit, is_multiple, is_of_result, mixed, sorted_keys, times_worth, unit_of, units_in,
    whole_multiple
)
from figurestay.worths import Worth

# What each way does to results from 0 on and to those up to 0, if their sign matters.
SIDES = {
    "cut": ("floor", "ceiling"),
    "away": ("ceiling", "floor"),
    "halfaway": ("halfup", "halfdown"),
    "halfcut": ("halfdown", "halfup"),
}

# These ways are halfup, but for halves.
NEAREST = ("halfeven", "halfaway", "halfcut")

# A result by the second way that is rounded by the first one may as well not be rounded ahead.
SAME_AT_ONCE = {"cut": "cut", "away": "away", "halfaway": "cut", "halfcut": "away"}


class Fold:
    """What some Mix is rounded to: `turn`, 1 or -1, times what this Mix is rounded to, and `more`, another Mix."""

    def __init__(self, mix, turn, more):
        self.mix = mix
        self.turn = turn
        self.more = more


def simplest(drops, mix, scale, way):
    """A Mix and a way that always give the same result: by floor, and without other results, where that can be."""
    while True:
        mix, way = _by_floor(drops, mix, scale, way)
        without = _without_floor(drops, mix, scale) if way == "floor" else _without_same(drops, mix, scale, way)
        if without is None:
            return mix, way
        mix = without


def folded(drops, mix, scale, way):
    """The Fold of a Mix and a way that are simplest; roundings that differ only by turns and whole units share it."""
    one = Worth(1, scale)
    if way == "floor":
        # What is taken off is rounded up, which is by floor again.
        unit = common_unit(units_in(drops.reaches, mix) + [one])
        turned = Mix(mix.factors, mix.rest_worth - one + unit)
        folds = [_reduced(drops.reaches, mix, one, 1), _reduced(drops.reaches, turned, one, -1)]
    elif way == "halfeven":
        folds = [_reduced(drops.reaches, mix, one + one, turn) for turn in (1, -1)]
    else:
        folds = [Fold(times_worth(mix, Worth(turn)), turn, Mix({}, Worth(0))) for turn in (1, -1)]
    return min(folds, key=lambda fold: _listed(fold.mix))


def _by_floor(drops, mix, scale, way):
    """A Mix and a way that always give the same result, by floor if that can be."""
    one, least = Worth(1, scale), Worth(1, drops.places_of(mix))
    half = one * Worth(5, 1)
    way = _way_within(drops, mix, half, way)
    ahead = {"floor": Worth(0), "ceiling": one - least, "halfup": half, "halfdown": half - least}
    if way not in ahead:
        return mix, way
    # By floor a part of the rest that is less than what the others move by does nothing.
    unit = common_unit(units_in(drops.reaches, mix) + [one])
    return Mix(mix.factors, whole_multiple(mix.rest_worth + ahead[way], unit)), "floor"


def _way_within(drops, mix, half, way):
    """A way that does the same with all that a Mix can come to, if possible one that looks at no sign or half."""
    if way in SIDES:
        low, high = drops.range_of(mix)
        if low.sign() >= 0:
            way, _ = SIDES[way]
        elif high.sign() <= 0:
            _, way = SIDES[way]
    if way in NEAREST:
        unit = common_unit(units_in(drops.reaches, mix) + [half + half])
        if not is_multiple(half - mix.rest_worth, unit):
            return "halfup"
    return way


def _without_floor(drops, mix, scale):
    """A Mix without one of its results by floor that has the same floor, or None.

    What is rounded is at least a multiple of the steps of such a result just if it is that without this rounding, too.
    """
    for key in mix.factors:
        if not is_of_result(key) or drops.drops[key].way != "floor":
            continue
        told, factor = drops.drops[key], mix.factors[key]
        others = Mix({other: mix.factors[other] for other in mix.factors if other != key}, mix.rest_worth)
        step = abs(unit_of(drops.reaches[key], factor))
        if all([is_multiple(unit, step) for unit in units_in(drops.reaches, others) + [Worth(1, scale)]]):
            inner = told.mix
            if factor.sign() < 0:
                # What is taken off is rounded up.
                inner = added(inner, Worth(1, told.places) - Worth(1, told.scale))
            return mixed(Mix(others.factors, whole_multiple(mix.rest_worth, step)), inner, factor)
    return None


def _without_same(drops, mix, scale, way):
    """A multiple of a Mix whose result, times the same, is rounded by a way that comes to the same at once, or None."""
    key = sorted_keys(mix.factors)[0]
    if way not in SAME_AT_ONCE or len(mix.factors) > 1 or mix.rest_worth.sign() != 0 or not is_of_result(key):
        return None
    told, factor = drops.drops[key], mix.factors[key]
    step = Worth(5, scale + 1) if way in NEAREST else Worth(1, scale)
    if told.way != SAME_AT_ONCE[way] or not is_multiple(step, abs(unit_of(drops.reaches[key], factor))):
        return None
    return times_worth(told.mix, factor)


def _reduced(reaches, mix, period, turn):
    """The Fold, turned or not, of a Mix from which all multiples of a period are taken out."""
    turned = times_worth(mix, Worth(turn))
    factors = {}
    for key in turned.factors:
        unit = unit_of(reaches[key], turned.factors[key])
        factors[key] = (unit - whole_multiple(unit, period)) * Worth(ten_to(reaches[key].scale))
    kept = Mix(factors, turned.rest_worth - whole_multiple(turned.rest_worth, period))
    return Fold(kept, turn, times_worth(mixed(turned, kept, Worth(-1)), Worth(turn)))


def _listed(mix):
    """The numbers of a Mix, in units of one scale, in an order that depends on its keys alone."""
    worths = [mix.factors[key] for key in sorted_keys(mix.factors)] + [mix.rest_worth]
    scale = max([worth.scale for worth in worths])
    return [worth.units_at(scale) for worth in worths]

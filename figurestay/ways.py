"""The nine ways of rounding."""

from figurestay.basics import is_an_integer, need_integer, need_whole_number, ten_to
from figurestay.errors import BadValue, NoDivisor
from figurestay.worths import Worth, need_worth

WAYS = ("floor", "ceiling", "cut", "away", "halfup", "halfdown", "halfeven", "halfaway", "halfcut")

MIRRORS = {"floor": "ceiling", "ceiling": "floor", "halfup": "halfdown", "halfdown": "halfup"}

# What the ways to the nearer one do with a half: as one of the other ways, or the even one.
HALVES = {"halfup": "ceiling", "halfdown": "floor", "halfeven": "even", "halfaway": "away", "halfcut": "cut"}


def need_way(value):
    """BadValue for a value that is no way."""
    if value not in WAYS:
        raise BadValue(value)


def mirrored(way):
    """The mirror of a way."""
    need_way(way)
    return MIRRORS.get(way, way)


def divided(number, divisor, way):
    """The integer to which number / divisor is rounded."""
    need_integer(number)
    if not is_an_integer(divisor) or divisor < 1:
        raise BadValue(divisor)
    need_way(way)
    return nearest_units(number, divisor, way)


def nearest_units(number, divisor, way):
    """What divided gives, for arguments that are known to be right."""
    below, left = divmod(number, divisor)
    if left != 0 and _goes_up(way, below, 2 * left - divisor):
        return below + 1
    return below


def _goes_up(way, below, past_half):
    """Whether a number between the integer below and the next one becomes the next one.

    past_half has the sign of how far the number lies beyond the middle of the two.
    """
    if way in HALVES:
        if past_half != 0:
            return past_half > 0
        way = HALVES[way]
    if way == "even":
        return below % 2 == 1
    if way == "cut":
        return below < 0
    if way == "away":
        return below >= 0
    return way == "ceiling"


def rounded(worth, scale, way):
    """The Worth of a scale to which worth is rounded."""
    need_worth(worth)
    need_whole_number(scale)
    need_way(way)
    if worth.scale <= scale:
        return worth
    return Worth(nearest_units(worth.units, ten_to(worth.scale - scale), way), scale)


def rounded_quotient(one, other, scale, way):
    """The Worth of a scale to which one / other is rounded."""
    need_worth(one)
    need_worth(other)
    need_whole_number(scale)
    need_way(way)
    if other.units == 0:
        raise NoDivisor()
    number, divisor = one.units * other.sign(), abs(other.units)
    shift = scale + other.scale - one.scale
    if shift >= 0:
        number = number * ten_to(shift)
    else:
        divisor = divisor * ten_to(-shift)
    return Worth(nearest_units(number, divisor, way), scale)


def shown_as(worth, scale, places, way):
    """The least and the greatest Worth with so many places that is rounded to worth; None if there is none."""
    need_worth(worth)
    need_whole_number(scale)
    need_whole_number(places)
    need_way(way)
    if worth.scale > min(scale, places):
        return None
    if places <= scale:
        return worth, worth
    units, one_unit = worth.units_at(scale), ten_to(places - scale)
    low, high = _least_offset(units, one_unit, way), _greatest_offset(units, one_unit, way)
    return Worth(units * one_unit + low, places), Worth(units * one_unit + high, places)


def _least_offset(units, one_unit, way):
    """How far below the worth itself the least one lies; it can lie at an end or at a half alone."""
    half = one_unit // 2
    for offset in (1 - one_unit, -half, 1 - half):
        if nearest_units(units * one_unit + offset, one_unit, way) == units:
            return offset
    return 0


def _greatest_offset(units, one_unit, way):
    """How far above the worth itself the greatest one lies."""
    half = one_unit // 2
    for offset in (one_unit - 1, half, half - 1):
        if nearest_units(units * one_unit + offset, one_unit, way) == units:
            return offset
    return 0

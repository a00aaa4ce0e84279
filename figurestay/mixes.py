"""Mixes: sums of multiples of variables, and a rest.

The variables are columns, with their names as keys, and results of steps that drop places, with numbers as keys.
"""

from math import gcd

from figurestay.worths import Worth


class Mix:
    """A multiplier for each variable, none of them 0, and a rest."""

    def __init__(self, factors, rest_worth):
        self.factors = {key: factors[key] for key in factors if factors[key].units != 0}
        self.rest_worth = rest_worth


class Reach:
    """The least and the greatest number of units of a scale that a variable can have."""

    def __init__(self, low, high, scale):
        self.low = low
        self.high = high
        self.scale = scale

    def bounds(self):
        """The least and the greatest Worth."""
        return Worth(self.low, self.scale), Worth(self.high, self.scale)


def column_reach(told):
    """The Reach of a Column."""
    scale = told.shape.scale
    return Reach(told.lowest().units_at(scale), told.highest().units_at(scale), scale)


def sorted_keys(keys):
    """Keys of columns, then those of results, each in their order."""
    return sorted([key for key in keys if isinstance(key, str)]) + sorted([key for key in keys if is_of_result(key)])


def is_of_result(key):
    """Whether a key is that of a result that drops places."""
    return not isinstance(key, str)


def unit_of(reach, factor):
    """What one unit of a variable comes to, times a multiplier."""
    return factor * Worth(1, reach.scale)


def units_in(reaches, mix):
    """What one unit of each variable of a Mix comes to."""
    return [unit_of(reaches[key], mix.factors[key]) for key in mix.factors]


def common_unit(worths):
    """The greatest Worth of which all of some Worths, one of them not 0, are multiples."""
    scale, common = max([worth.scale for worth in worths]), 0
    for worth in worths:
        common = gcd(common, worth.units_at(scale))
    return Worth(common, scale)


def is_multiple(worth, unit):
    """Whether a Worth is a multiple of another one that is not 0."""
    scale = max(worth.scale, unit.scale)
    return worth.units_at(scale) % unit.units_at(scale) == 0


def whole_multiple(worth, unit):
    """The greatest multiple of a Worth above 0 that another one is not below."""
    scale = max(worth.scale, unit.scale)
    units, one = worth.units_at(scale), unit.units_at(scale)
    return Worth(units - units % one, scale)


def is_alike(one, other):
    """Whether two Mixes have the same multipliers and the same rest."""
    return one.factors == other.factors and one.rest_worth == other.rest_worth


def mixed(one, other, times):
    """The Mix of one and of another one times a Worth."""
    factors = dict(one.factors)
    for key in other.factors:
        factors[key] = factors.get(key, Worth(0)) + other.factors[key] * times
    return Mix(factors, one.rest_worth + other.rest_worth * times)


def added(mix, worth):
    """The Mix of a Mix and a Worth."""
    return Mix(mix.factors, mix.rest_worth + worth)


def times_worth(mix, worth):
    """The Mix of a Mix times a Worth."""
    return mixed(Mix({}, Worth(0)), mix, worth)


def result_at(mix, worths):
    """What a Mix comes to at the worths of its variables."""
    result = mix.rest_worth
    for key in mix.factors:
        result = result + worths[key] * mix.factors[key]
    return result

"""Exact results of steps at all corners and at all small worths of the columns."""

from math import gcd

from figurestay.basics import ten_to
from figurestay.shapes import some_shape, whole_figures
from figurestay.worths import Worth, without_zeros


class Span:
    """The exact results of a step as numbers of units of one scale: at all corners, and at all small worths.

    The place of a result in its list tells the worths: its bits choose the lesser or the greater one of each column.
    """

    def __init__(self, scale, corners, smalls):
        self.scale = scale
        self.corners = corners
        self.smalls = smalls


def column_span(told, bit, many):
    """The Span of a Column that is chosen by this bit of so many places."""
    scale = told.shape.scale
    ends = told.lowest().units_at(scale), told.highest().units_at(scale)
    small = [worth.units_at(scale) for worth in told.small()]
    corners = [ends[(place >> bit) & 1] for place in range(many)]
    return Span(scale, corners, [small[(place >> bit) & 1] for place in range(many)])


def constant_span(worth, many):
    """The Span of a Worth that is the same at all places."""
    return Span(worth.scale, [worth.units] * many, [worth.units] * many)


def sum_span(one, other):
    """The Span of the sum of two steps."""
    scale = max(one.scale, other.scale)
    by, other_by = ten_to(scale - one.scale), ten_to(scale - other.scale)
    corners = [units * by + more * other_by for units, more in zip(one.corners, other.corners)]
    return Span(scale, corners, [units * by + more * other_by for units, more in zip(one.smalls, other.smalls)])


def product_span(one, other):
    """The Span of the product of two steps."""
    corners = [units * more for units, more in zip(one.corners, other.corners)]
    return Span(one.scale + other.scale, corners, [units * more for units, more in zip(one.smalls, other.smalls)])


def multiple_span(span, worth):
    """The Span of a step times a Worth."""
    corners = [units * worth.units for units in span.corners]
    return Span(span.scale + worth.scale, corners, [units * worth.units for units in span.smalls])


def common_units(span):
    """The greatest number of units of which all exact results are multiples; 0 if all are 0."""
    common = 0
    for units in span.smalls:
        common = gcd(common, units)
    return common


def least_scale(span):
    """The least scale that all exact results have."""
    _, scale = without_zeros(common_units(span), span.scale)
    return scale


def least_whole_figures(span):
    """The least number w such that all exact results are less than 10 ** w in size."""
    return whole_figures(max(max(span.corners), -min(span.corners)), span.scale)


def true_shape_of(span):
    """The least Shape of all exact results."""
    return some_shape(least_whole_figures(span), least_scale(span))


def finer_place(span, scale):
    """The first place of a small worth that has not this scale, or None."""
    if span.scale <= scale:
        return None
    return indivisible_place(span, 1, ten_to(span.scale - scale))


def indivisible_place(span, by, divisor):
    """The first place where the small worth's units, times a number, are no multiple of a divisor, or None."""
    for place, units in enumerate(span.smalls):
        if units * by % divisor != 0:
            return place
    return None


def extreme_places(span):
    """The places of the least and of the greatest exact result at the corners."""
    return span.corners.index(min(span.corners)), span.corners.index(max(span.corners))


def corner_worth(span, place):
    """The exact result at the corners of a place."""
    return Worth(span.corners[place], span.scale)


def small_worth(span, place):
    """The exact result at the small worths of a place."""
    return Worth(span.smalls[place], span.scale)

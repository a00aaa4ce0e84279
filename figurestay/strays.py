"""How far results can be from straight results, and from those of another formula."""

from figurestay.drops import steps_of, straight_mix
from figurestay.extremes import drops_of, ends_of, need_fitting
from figurestay.linear import need_linear
from figurestay.mixes import mixed
from figurestay.shaped import need_same_columns, need_shaped
from figurestay.worths import Worth


def stray(shaped):
    """The least and the greatest stray of the last step, each with worths that give it."""
    need_linear(shaped)
    drops = drops_of(shaped)
    steps = steps_of(shaped, drops)
    need_fitting(shaped, drops, steps, shaped.formula.size)
    return ends_of(shaped, drops, mixed(steps.results[-1], straight_mix(shaped), Worth(-1)))


def apart(one, other):
    """The least and the greatest result of one Shaped less that of another one, each with worths that give it."""
    drops, difference = difference_of(one, other)
    return ends_of(one, drops, difference)


def difference_of(one, other):
    """The Drops of two Shapeds, and the result of one less that of the other."""
    need_shaped(one)
    need_shaped(other)
    need_same_columns(one, other)
    need_linear(one)
    need_linear(other)
    drops = drops_of(one)
    both = [(shaped, steps_of(shaped, drops)) for shaped in (one, other)]
    for shaped, steps in both:
        need_fitting(shaped, drops, steps, shaped.formula.size)
    return drops, mixed(both[0][1].results[-1], both[1][1].results[-1], Worth(-1))

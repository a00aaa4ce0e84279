"""Shapes and columns."""

from figurestay.basics import digits_of, need_list, need_whole_number, ten_to
from figurestay.errors import BadValue, NoFigures
from figurestay.worths import Worth, need_worth

MARKS = ("signed", "unsigned", "positive")


class Shape:
    """A number of whole figures and a scale, not both 0."""

    def __init__(self, whole, scale):
        need_whole_number(whole)
        need_whole_number(scale)
        if whole == 0 and scale == 0:
            raise NoFigures()
        self.whole = whole
        self.scale = scale

    def __eq__(self, other):
        return isinstance(other, Shape) and self.whole == other.whole and self.scale == other.scale

    @property
    def width(self):
        """The number of all figures."""
        return self.whole + self.scale

    def fits(self, worth):
        """Whether a worth has the scale and is not too great."""
        need_worth(worth)
        return worth.scale <= self.scale and is_below_ten_to(worth, self.whole)

    def greatest(self):
        """The greatest Worth that fits."""
        return Worth(ten_to(self.width) - 1, self.scale)


class Column:
    """A shape and a mark: signed, unsigned or positive."""

    def __init__(self, whole, scale, mark="signed"):
        need_whole_number(whole)
        need_whole_number(scale)
        if mark not in MARKS:
            raise BadValue(mark)
        self.shape = Shape(whole, scale)
        self.mark = mark

    def __eq__(self, other):
        return isinstance(other, Column) and self.shape == other.shape and self.mark == other.mark

    def holds(self, worth):
        """Whether a worth fits and its sign is allowed."""
        if not self.shape.fits(worth):
            return False
        if self.mark == "positive":
            return worth.units > 0
        return self.mark == "signed" or worth.units >= 0

    def lowest(self):
        """The least Worth that the column holds."""
        if self.mark == "signed":
            return -self.shape.greatest()
        return self.small()[0]

    def highest(self):
        """The greatest Worth that the column holds."""
        return self.shape.greatest()

    def small(self):
        """The small worths, ascending."""
        first = 1 if self.mark == "positive" else 0
        return Worth(first, self.shape.scale), Worth(first + 1, self.shape.scale)


def need_shape(value):
    """BadValue for a value that is no Shape."""
    if not isinstance(value, Shape):
        raise BadValue(value)


def is_below_ten_to(worth, whole):
    """Whether a worth is less than 10 ** whole in size."""
    return abs(worth.units) < ten_to(whole + worth.scale)


def whole_figures(units, scale):
    """How many digits the integer part of so many units of a scale has, without zeros ahead."""
    integer = abs(units) // ten_to(scale)
    return 0 if integer == 0 else len(digits_of(integer))


def some_shape(whole, scale):
    """The Shape of these figures, (1, 0) if there would be none."""
    return Shape(max(whole, 1 if scale == 0 else 0), scale)


def least_shape(worths):
    """The least Shape that all of a list of Worths fit."""
    need_list(worths)
    for worth in worths:
        need_worth(worth)
    whole = max([whole_figures(worth.units, worth.scale) for worth in worths], default=0)
    scale = max([worth.scale for worth in worths], default=0)
    return some_shape(whole, scale)

"""Worths: decimal numbers of any size, worked exactly."""

from figurestay.basics import digits_of, need_integer, need_whole_number, ten_to
from figurestay.errors import BadValue, TooFine

LONGEST_TEXT = 400


class Worth:
    """An integer number of units of 10 ** -scale, kept at its own scale.

    Worths are in order by the greatest integer that they are not below, then by the digits of what they have more.
    """

    def __init__(self, units, scale=0):
        need_integer(units)
        need_whole_number(scale)
        self.units, self.scale = without_zeros(units, scale)
        self.floor, self.more = parted(self.units, self.scale)

    def __eq__(self, other):
        if not isinstance(other, Worth):
            return False
        return (self.floor, self.more) == (other.floor, other.more)

    def __lt__(self, other):
        if not isinstance(other, Worth):
            return NotImplemented
        return (self.floor, self.more) < (other.floor, other.more)

    def __le__(self, other):
        if not isinstance(other, Worth):
            return NotImplemented
        return (self.floor, self.more) <= (other.floor, other.more)

    def __add__(self, other):
        other = as_worth(other)
        scale = max(self.scale, other.scale)
        return Worth(self.units_at(scale) + other.units_at(scale), scale)

    def __radd__(self, other):
        return as_worth(other) + self

    def __sub__(self, other):
        other = as_worth(other)
        scale = max(self.scale, other.scale)
        return Worth(self.units_at(scale) - other.units_at(scale), scale)

    def __rsub__(self, other):
        return as_worth(other) - self

    def __mul__(self, other):
        other = as_worth(other)
        return Worth(self.units * other.units, self.scale + other.scale)

    def __rmul__(self, other):
        return as_worth(other) * self

    def __neg__(self):
        return Worth(-self.units, self.scale)

    def __abs__(self):
        return Worth(abs(self.units), self.scale)

    def __str__(self):
        return str(self.text(self.scale))

    def sign(self):
        """-1, 0 or 1."""
        if self.units == 0:
            return 0
        return 1 if self.units > 0 else -1

    def units_at(self, scale):
        """The number of units of a scale that this worth has."""
        need_whole_number(scale)
        if scale < self.scale:
            raise TooFine(self.scale)
        return self.units * ten_to(scale - self.scale)

    def text(self, scale):
        """The text at a scale that this worth has."""
        units = self.units_at(scale)
        minus = "-" if units < 0 else ""
        digits = digits_of(abs(units)).zfill(scale + 1)
        if scale == 0:
            return f"{minus}{digits}"
        ahead, behind = digits[:-scale], digits[-scale:]
        return f"{minus}{ahead}.{behind}"


def without_zeros(units, scale):
    """The units and the scale of the same number at its own scale."""
    if scale == 0 or units % 10 != 0:
        return units, scale
    if units == 0:
        return 0, 0
    step = 1
    while step * 2 <= scale:
        step = step * 2
    # Ever smaller blocks of zeros: a long number is divided a few times, not once for each zero.
    while step > 0:
        block = ten_to(step)
        if step <= scale and units % block == 0:
            units, scale = units // block, scale - step
        step = step // 2
    return units, scale


def parted(units, scale):
    """The greatest integer that so many units are not below, and what they have more, in as many digits as the scale.

    At the own scale these digits end with no zero, so that their order is that of what they tell.
    """
    if scale == 0:
        return units, ""
    floor, more = divmod(units, ten_to(scale))
    return floor, digits_of(more).zfill(scale)


def as_worth(value):
    """A Worth as it is, an integer as a Worth; BadValue for any other value."""
    return value if isinstance(value, Worth) else Worth(value)


def need_worth(value):
    """BadValue for a value that is no Worth."""
    if not isinstance(value, Worth):
        raise BadValue(value)


def inverse(worth):
    """The Worth 1 / worth; None if there is none."""
    if worth.units == 0:
        return None
    twos, left = _without_factor(abs(worth.units), 2)
    fives, left = _without_factor(left, 5)
    if left != 1:
        return None
    places = max(twos, fives)
    units = ten_to(places) // abs(worth.units) * worth.sign()
    return Worth(units * ten_to(worth.scale), places)


def _without_factor(number, factor):
    """How often a factor is in a number from 1 on, and what is left."""
    times = 0
    while number % factor == 0:
        number = number // factor
        times += 1
    return times, number


def compare(one, other):
    """-1, 0 or 1, if one is less than, equal to, greater than other."""
    need_worth(one)
    need_worth(other)
    return (one - other).sign()


def read_figures(text):
    """The units and the scale of the text of a worth, as they are written."""
    if not isinstance(text, str) or len(text) > LONGEST_TEXT:
        raise BadValue(text)
    ahead, _, behind = text.partition(".")
    digits = ahead.removeprefix("-") + behind
    if not digits.isascii() or not digits.isdigit():
        raise BadValue(text)
    units, scale = int(digits), len(behind)
    if ahead.startswith("-"):
        units = -units
    # Many spellings come to these units; only one of them is the text.
    if Worth(units, scale).text(scale) != text:
        raise BadValue(text)
    return units, scale


def read_worth(text):
    """The Worth of a text."""
    units, scale = read_figures(text)
    return Worth(units, scale)

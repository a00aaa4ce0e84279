"""Regions: integer points, told as an offset and multiples of vectors, that keep some lines within their bounds."""

from math import gcd

from figurestay.lattices import inner, short_vectors, unit_vectors
from figurestay.tables import Line

# So much finer than the room of the widest line are the narrowest ones measured.
FINENESS = 64


class Region:
    """An offset, vectors, and lines over the numbers of these vectors that are added to the offset."""

    def __init__(self, offset, vectors, lines):
        self.offset = offset
        self.vectors = vectors
        self.lines = lines

    def point(self, numbers):
        """The offset and so many of each vector."""
        made = self.offset
        for number, vector in zip(numbers, self.vectors):
            made = [entry + number * more for entry, more in zip(made, vector)]
        return made

    def holds(self, numbers):
        """Whether all lines hold at so many of each vector."""
        return all([line.holds(inner(line.form, numbers)) for line in self.lines])


def region_of(lines, many):
    """The Region of so many variables whose lines are told over these variables."""
    return Region([0] * many, unit_vectors(many), lines)


def with_line(region, line):
    """The part of a Region in which one more line holds, told over the variables."""
    form = [inner(line.form, vector) for vector in region.vectors]
    return Region(region.offset, region.vectors, region.lines + [_moved(form, line, inner(line.form, region.offset))])


def with_even(region, place):
    """The part of a Region in which a variable is even; None if it has no points."""
    odd = [at for at, vector in enumerate(region.vectors) if vector[place] % 2 == 1]
    is_odd = region.offset[place] % 2 == 1
    if len(odd) == 0:
        return None if is_odd else region
    # An odd vector comes with another odd one, or twice.
    first = odd[0]
    taken = region.vectors[first]
    vectors = [_plus(vector, taken, -1) if at in odd[1:] else vector for at, vector in enumerate(region.vectors)]
    vectors[first] = _plus(taken, taken, 1)
    lines = []
    for line in region.lines:
        own = line.form[first]
        form = [number - own if at in odd[1:] else number for at, number in enumerate(line.form)]
        form[first] = 2 * own
        lines.append(_moved(form, line, own if is_odd else 0))
    return Region(_plus(region.offset, taken, 1) if is_odd else region.offset, vectors, lines)


def layer(region, place, number):
    """The part of a Region with so many of the vector in this place."""
    vectors = region.vectors
    lines = [_moved(_without(line.form, place), line, line.form[place] * number) for line in region.lines]
    return Region(_plus(region.offset, vectors[place], number), _without(vectors, place), lines)


def stretch(region, place, low, high):
    """The part of a Region with at least and at most so many of the vector in this place."""
    line = Line([1 if place == other else 0 for other in range(len(region.vectors))], low, high)
    return Region(region.offset, region.vectors, region.lines + [line])


def tidied(region):
    """A Region with the same points, each line told once, its ends integers; None if lines exclude each other."""
    made = {}
    for line in region.lines:
        common = 0
        for number in line.form:
            common = gcd(common, number)
        if common == 0:
            if not line.holds(0):
                return None
            continue
        told = _reduced(line, common)
        key = tuple(told.form)
        if key in made:
            told = _both(made[key], told)
        room = told.room()
        if room is not None and room < 0:
            return None
        made[key] = told
    return Region(region.offset, region.vectors, list(made.values()))


def in_short_vectors(region):
    """The same Region, told with vectors that are short if the lines count the more, the less room they have."""
    rooms = [line.room() for line in region.lines]
    most = max([room for room in rooms if room is not None])
    weights = [0 if room is None else FINENESS * (most + 1) // (room + 1) for room in rooms]
    made = short_vectors([line.form for line in region.lines], weights)
    lines = [Line([inner(line.form, told) for told in made], line.low, line.high) for line in region.lines]
    zero = Region([0] * len(region.offset), region.vectors, [])
    return Region(region.offset, [zero.point(told) for told in made], lines)


def _moved(form, line, size):
    """A Line with another form, whose bounds are those of a Line less so much."""
    low = None if line.low is None else line.low - size
    high = None if line.high is None else line.high - size
    return Line(form, low, high)


def _reduced(line, common):
    """A Line divided by what its numbers have in common, its first number above 0."""
    first = [number for number in line.form if number != 0][0]
    low, high = line.low, line.high
    if first < 0:
        common = -common
        low, high = high, low
    form = [number // common for number in line.form]
    low = None if low is None else -(-low // common)
    return Line(form, low, None if high is None else high // common)


def _both(one, other):
    """The Line that holds where two Lines of one form hold."""
    lows = [line.low for line in (one, other) if line.low is not None]
    highs = [line.high for line in (one, other) if line.high is not None]
    return Line(one.form, max(lows) if len(lows) > 0 else None, min(highs) if len(highs) > 0 else None)


def _plus(one, other, times):
    """A vector and so many of another one."""
    return [entry + times * more for entry, more in zip(one, other)]


def _without(entries, place):
    return entries[:place] + entries[place + 1:]

"""Entries of totals, in units of the scale of the total."""

from figurestay.basics import is_whole_number, need_whole_number
from figurestay.errors import BadEntry
from figurestay.ways import need_way, rounded
from figurestay.worths import Worth

# The ways by which entries can be loose: those of a half, and those of anything that is less than a unit.
LOOSE_AT_HALF = ("halfeven", "halfaway", "halfcut")
LOOSE_IN_ALL = ("cut", "away")


class Entry:
    """A worth that comes so many times: its floor, what it is rounded to by itself, its sign, whether it is loose."""

    def __init__(self, worth, times, scale, way):
        below = rounded(worth, scale, "floor")
        self.times = times
        self.floor = below.units_at(scale)
        self.alone = rounded(worth, scale, way).units_at(scale)
        self.side = worth.sign()
        left = worth - below
        self.is_loose = (way in LOOSE_IN_ALL and left.units != 0) or (
            way in LOOSE_AT_HALF and left + left == Worth(1, scale)
        )


def need_entries(entries, scale, way):
    """BadEntry for the first value that is no entry, then BadValue for the scale and for the way."""
    for index, told in enumerate(entries):
        if not isinstance(told, (list, tuple)) or len(told) != 2:
            raise BadEntry(index)
        if not isinstance(told[0], Worth) or not is_whole_number(told[1]):
            raise BadEntry(index)
    need_whole_number(scale)
    need_way(way)


def entries_in_units(entries, scale, way):
    """The Entry of each pair of a worth and its times."""
    return [Entry(worth, times, scale, way) for worth, times in entries]


def total_behind(units, entry, way):
    """The running total behind an entry that comes behind a running total of so many units."""
    if entry.times == 0 or not entry.is_loose:
        return units + entry.alone * entry.times
    if way == "halfeven":
        # The total is even behind the first one, so all further ones add the same.
        first = units + entry.floor
        return first + first % 2 + (entry.floor + entry.floor % 2) * (entry.times - 1)
    times = entry.times
    while times > 0:
        ahead = units + entry.floor
        is_above = ahead >= 0
        added = entry.floor if is_above == (way in ("cut", "halfcut")) else entry.floor + 1
        many = min(times, _times_on_side(ahead, added, times))
        units = units + added * many
        times = times - many
    return units


def _times_on_side(ahead, added, times):
    """How often, of so many times, the sum is on its side of 0, if it begins at a unit and moves by so many units."""
    if ahead >= 0:
        return times if added >= 0 else ahead // -added + 1
    return times if added <= 0 else (added - 1 - ahead) // added

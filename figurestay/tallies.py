"""Running totals over all orders of some entries."""

from figurestay.basics import need_whole_number
from figurestay.entries import Entry, entries_in_units, need_entries, total_behind
from figurestay.errors import Gaps
from figurestay.ways import need_way
from figurestay.worths import Worth, need_worth


def tally_range(entries, scale, way):
    """The least and the greatest running total over all orders."""
    need_entries(entries, scale, way)
    least, greatest = _range_of(entries, scale, way)
    return Worth(least, scale), Worth(greatest, scale)


def order_for(worths, scale, way, total):
    """An order, as a list of indexes, whose running total is the told one; None if there is none."""
    for worth in worths:
        need_worth(worth)
    need_whole_number(scale)
    need_way(way)
    need_worth(total)
    pairs = [(worth, 1) for worth in worths]
    least, greatest = _range_of(pairs, scale, way)
    if way in ("away", "halfaway") and total not in (Worth(least, scale), Worth(greatest, scale)):
        raise Gaps(way)
    if total.scale > scale or not least <= total.units_at(scale) <= greatest:
        return None
    entries, units = entries_in_units(pairs, scale, way), total.units_at(scale)
    if way == "halfeven":
        return _order_by_halves(entries, units)
    high = _order_of_greatest(entries, way)
    low = _order_of_greatest([Entry(-worth, 1, scale, way) for worth in worths], way)
    return _order_between(entries, way, high, low, units)


def _range_of(pairs, scale, way):
    """The least and the greatest running total over all orders, in units."""
    entries = entries_in_units(pairs, scale, way)
    if way == "halfeven":
        return _range_by_halves(entries)
    if way in ("cut", "halfcut", "away", "halfaway"):
        mirrored_entries = entries_in_units([(-worth, times) for worth, times in pairs], scale, way)
        return -_greatest_of(mirrored_entries, way), _greatest_of(entries, way)
    total = _sum_of([(entry.alone, entry.times) for entry in entries])
    return total, total


def _sum_of(pairs):
    return sum([units * times for units, times in pairs])


def _base_of(entries):
    """What settled entries are rounded to, and the floors of the loose ones."""
    return _sum_of([(entry.floor if entry.is_loose else entry.alone, entry.times) for entry in entries])


def _range_by_halves(entries):
    """The least and the greatest running total by halfeven."""
    even = sum([entry.times for entry in entries if entry.is_loose and entry.floor % 2 == 0])
    odd = sum([entry.times for entry in entries if entry.is_loose and entry.floor % 2 == 1])
    turning = sum([entry.times for entry in entries if not entry.is_loose and entry.alone % 2 == 1])
    base = _base_of(entries)
    return base + odd - min(odd, turning), base + odd + min(even, turning)


def _greatest_of(entries, way):
    """The greatest running total by cut, halfcut, away and halfaway: some come first, and lift as many as can be."""
    first = _first_side(way)
    lifting = [entry for entry in entries if entry.side == first]
    others = [entry for entry in entries if entry.is_loose and entry.side == -first]
    lifted = sum([entry.times for entry in lifting if entry.is_loose])
    room = first * _sum_of([(entry.floor + 1 if entry.is_loose else entry.alone, entry.times) for entry in lifting])
    if first > 0:
        # The sums are to stay above 0, not only from 0 on.
        room = room - 1
    sizes = [(-first * (entry.floor + 1), entry.times) for entry in others]
    return _base_of(entries) + lifted + _most_within(sizes, room)


def _first_side(way):
    """The sign of the entries that come first, if the running total is to be the greatest one."""
    return -1 if way in ("cut", "halfcut") else 1


def _most_within(sizes, room):
    """How many of some sizes, each told with its times, add up to a room at most; none if it is below 0."""
    many = 0
    if room < 0:
        return many
    for size, times in sorted(sizes, key=lambda told: told[0]):
        fitting = times if size == 0 else min(times, room // size)
        many, room = many + fitting, room - fitting * size
    return many


def _order_by_halves(entries, units):
    """An order whose running total is so many units, by halfeven."""
    indexes = list(range(len(entries)))
    loose = [index for index in indexes if entries[index].is_loose]
    settled = [index for index in indexes if not entries[index].is_loose]
    # With no settled entry between them the odd ones add one more, the even ones do not. A settled entry that is odd
    # turns this for the loose one behind it.
    odd = [index for index in loose if entries[index].floor % 2 == 1]
    more = units - _base_of(entries) - len(odd)
    turned = odd[:-more] if more < 0 else [index for index in loose if entries[index].floor % 2 == 0][:more]
    turning = [index for index in settled if entries[index].alone % 2 == 1][:len(turned)]
    order = []
    for index, ahead in zip(turned, turning):
        order.extend([ahead, index])
    order.extend([index for index in loose if index not in turned])
    return order + [index for index in settled if index not in turning]


def _order_of_greatest(entries, way):
    """An order with the greatest running total, by a way other than halfeven."""
    first = _first_side(way)
    ahead, loose, behind = [], [], []
    for index, entry in enumerate(entries):
        if entry.side == first:
            ahead.append(index)
        elif entry.is_loose:
            loose.append((abs(entry.floor + 1), index))
        else:
            behind.append(index)
    return ahead + [index for _, index in sorted(loose)] + behind


def _order_between(entries, way, order, other, units):
    """An order on the way from one to another whose running total is so many units.

    Neighbours are exchanged one by one; by cut and halfcut this changes the total by one unit at most.
    """
    order = list(order)
    if _total_in(entries, way, order) == units:
        return order
    for place, index in enumerate(other):
        for at in range(order.index(index), place, -1):
            order[at - 1], order[at] = order[at], order[at - 1]
            if _total_in(entries, way, order) == units:
                return order
    return None


def _total_in(entries, way, order):
    """The running total in an order."""
    units = 0
    for index in order:
        units = total_behind(units, entries[index], way)
    return units

"""Totals of many results: how far they can be apart, and from how many on they can be over."""

from figurestay.basics import is_integer_from_1, need_whole_number, ten_to
from figurestay.entries import Entry, total_behind
from figurestay.errors import BadColumn, BadValue, Divides
from figurestay.plain import corner_worths, exacts_of
from figurestay.shaped import need_shaped
from figurestay.shapes import Column
from figurestay.spans import corner_worth, extreme_places
from figurestay.ways import mirrored, need_way, rounded
from figurestay.worths import Worth


def rounding_gap(column, scale, way, many):
    """The least and the greatest gap of many entries of a column, each with the worth of all entries."""
    _need_crowd(column, scale, way, many)
    worths = [worth for worth in _telling_worths(column.shape.scale, scale) if column.holds(worth)]
    gaps = []
    for worth in worths:
        gap = rounded(worth * many, scale, way) - rounded(worth, scale, way) * many
        gaps.append((gap.units_at(scale), worth))
    low = min(gaps, key=lambda told: told[0])
    high = max(gaps, key=lambda told: told[0])
    return (Worth(low[0], scale), low[1]), (Worth(high[0], scale), high[1])


def running_gap(column, scale, way, many):
    """The least and the greatest running gap of many entries of a column."""
    _need_crowd(column, scale, way, many)
    least, greatest = _running_gap_in_units(column, scale, way, many)
    return Worth(least, scale), Worth(greatest, scale)


def over_from(shaped, whole, scale, way):
    """The least number of results whose rounded total can be over, and worths of all of them; None if none can."""
    return _first_crowd(shaped, whole, scale, way, False)


def running_over_from(shaped, whole, scale, way):
    """The least number of results whose running total can be over, and worths of all of them; None if none can."""
    return _first_crowd(shaped, whole, scale, way, True)


def _need_crowd(column, scale, way, many):
    if not isinstance(column, Column):
        raise BadColumn(column)
    need_whole_number(scale)
    need_way(way)
    if not is_integer_from_1(many):
        raise BadValue(many)


def _telling_worths(places, scale):
    """The worths of which some has the least gap, and some the greatest one."""
    if places <= scale:
        units = [0, 1]
    else:
        one = ten_to(places - scale)
        half = one // 2
        units = [0, 1, half - 1, half, half + 1, one - 1, one, 3 * half]
    return [Worth(number * sign, places) for number in units for sign in (1, -1)]


def _running_gap_in_units(column, scale, way, many):
    figures = column.shape.whole + scale
    is_signed = column.mark == "signed"
    if column.shape.scale <= scale or way in ("floor", "ceiling", "halfup", "halfdown"):
        return 0, 0
    if way == "halfeven":
        greatest = many // 2
        return (-greatest if is_signed or figures > 0 else 0), greatest
    if not is_signed:
        return 0, 0
    if way in ("away", "halfaway"):
        greatest = many - 1
    else:
        steps = ten_to(figures) + (1 if way == "halfcut" else 0)
        greatest = many + -many // steps
    return -greatest, greatest


def _first_crowd(shaped, whole, scale, way, is_running):
    """The least number of results whose total can be over, and worths that give all these results."""
    need_shaped(shaped)
    need_whole_number(whole)
    need_whole_number(scale)
    need_way(way)
    exacts = exacts_of(shaped)
    for step, row in enumerate(shaped.formula.rows):
        if row[0] == "quotient":
            raise Divides(step)
    span, units = exacts.spans[-1], ten_to(whole + scale)
    best = None
    for place, told_way, sign in zip(extreme_places(span), (mirrored(way), way), (-1, 1)):
        # The totals of the least result are those of a greatest one, by the mirror of the way.
        result = corner_worth(span, place) * sign
        if result.sign() <= 0:
            continue
        if is_running:
            many = _running_count(result, units, scale, told_way)
        else:
            many = _count(result, units, scale, told_way)
        if many is not None and (best is None or many < best[0]):
            best = many, corner_worths(exacts, place)
    return best


def _count(result, units, scale, way):
    """How many results, equal and above 0, it takes for a rounded total of so many units."""
    low, high = 1, (units + 1) * ten_to(result.scale) // result.units + 1
    while low < high:
        middle = (low + high) // 2
        if rounded(result * middle, scale, way).units_at(scale) >= units:
            high = middle
        else:
            low = middle + 1
    return low


def _running_count(result, units, scale, way):
    """How many results, equal and above 0, it takes for a running total of so many units; None if none will do."""
    entry = Entry(result, 1, scale, way)
    first = total_behind(0, entry, way)
    if first >= units:
        return 1
    # From the second one on all add the same.
    added = total_behind(first, entry, way) - first
    return None if added == 0 else 1 - (first - units) // added

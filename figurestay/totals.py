"""Totals of entries: rounded at the end, in each entry, or behind each entry."""

from figurestay.entries import entries_in_units, need_entries, total_behind
from figurestay.ways import rounded
from figurestay.worths import Worth


def rounded_total(entries, scale, way):
    """The sum of the entries, rounded."""
    need_entries(entries, scale, way)
    total = Worth(0)
    for worth, times in entries:
        total = total + worth * times
    return rounded(total, scale, way)


def total_of_rounded(entries, scale, way):
    """The sum of the entries, each of them rounded."""
    need_entries(entries, scale, way)
    return Worth(sum([entry.alone * entry.times for entry in entries_in_units(entries, scale, way)]), scale)


def running_total(entries, scale, way):
    """The entries added one by one, the sum rounded at once each time."""
    need_entries(entries, scale, way)
    units = 0
    for entry in entries_in_units(entries, scale, way):
        units = total_behind(units, entry, way)
    return Worth(units, scale)

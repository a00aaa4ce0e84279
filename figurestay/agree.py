"""Whether two linear formulas agree, for the widths of their columns and for any widths."""

from figurestay.basics import digits_of, ten_to
from figurestay.drops import Drops, steps_of
from figurestay.errors import ColumnsDiffer
from figurestay.extremes import with_all_names
from figurestay.formulas import parts_of
from figurestay.linear import need_linear, straights_of
from figurestay.mixes import Reach, mixed
from figurestay.shaped import need_shaped
from figurestay.shapes import whole_figures
from figurestay.strays import difference_of
from figurestay.tops import some_not_0
from figurestay.worths import Worth, inverse


def parting(one, other):
    """Worths at which the results of two Shapeds are unequal; None if there are none."""
    drops, difference = difference_of(one, other)
    worths = some_not_0(drops, difference)
    return None if worths is None else with_all_names(one, worths)


def parting_widths(one, other):
    """The fewest figures of columns of any width with which two Shapeds part, and worths; None if they never do."""
    need_shaped(one)
    need_shaped(other)
    _need_same_scales(one, other)
    need_linear(one)
    need_linear(other)
    columns = one.columns()
    standing = {name: columns[name] for name in one.formula.names() + other.formula.names()}
    enough = max(_enough_figures(one), _enough_figures(other))
    few, many, worths = 1 if any([standing[name].mark == "positive" for name in standing]) else 0, enough + 1, None
    # Mostly a few figures more than the scales are enough.
    middle = min(enough, few + 3 + max([standing[name].shape.scale for name in standing], default=0))
    # With more figures the worths with fewer ones are still there.
    while few < many:
        found = _parting_with(one, other, standing, middle)
        if found is not None:
            many, worths = _figures_in(found, standing), found
        elif middle == enough:
            return None
        else:
            few = middle + 1
        middle = enough if worths is None else (few + many) // 2
    return many, {**{name: columns[name].small()[0] for name in columns}, **worths}


def _figures_in(worths, columns):
    """The figures of the widest of some worths, each at the scale of its column."""
    units = [abs(worths[name].units_at(columns[name].shape.scale)) for name in worths]
    return max([0 if number == 0 else len(digits_of(number)) for number in units], default=0)


def _need_same_scales(one, other):
    """ColumnsDiffer for the first name that has not a Column of the same scale and mark in both."""
    columns, others = one.columns(), other.columns()
    for name in sorted({**columns, **others}):
        if name not in columns or name not in others:
            raise ColumnsDiffer(name)
        mine, yours = columns[name], others[name]
        if (mine.shape.scale, mine.mark) != (yours.shape.scale, yours.mark):
            raise ColumnsDiffer(name)


def _parting_with(one, other, standing, figures):
    """Worths of the columns, of so many figures at most, at which the results are unequal; None if there are none."""
    drops = Drops({name: _wide_reach(standing[name], figures) for name in standing})
    results = [steps_of(shaped, drops).results[-1] for shaped in (one, other)]
    difference = mixed(results[0], results[1], Worth(-1))
    worths = some_not_0(drops, difference)
    if worths is None:
        return None
    return {**{name: standing[name].small()[0] for name in standing}, **worths}


def _wide_reach(told, figures):
    """The Reach of a Column with so many figures."""
    most = ten_to(figures) - 1
    least = {"signed": -most, "unsigned": 0, "positive": 1}[told.mark]
    return Reach(least, most, told.shape.scale)


def _enough_figures(shaped):
    """So many figures that the results part with them if they part at all.

    What is dropped, and what is even, stays when a column is moved by twice a power of ten that no multiplier brings
    below a unit. So only the signs of results bound how small worths can be that part; three columns that keep the
    signs of some results need not be larger than the products of three multipliers and of one rest.
    """
    straights = straights_of(shaped)
    columns = shaped.columns()
    longs, ahead = [], 0
    for step, row in enumerate(shaped.formula.rows):
        long = max([longs[part] for part in parts_of(row)], default=0)
        if row[0] in ("product", "quotient"):
            # One side is a Worth, or both are.
            worths = [straights[part].rest_worth for part in parts_of(row) if len(straights[part].factors) == 0]
            long = long + max([_figures_of(worth) for worth in worths])
        if len(straights[step].factors) == 0:
            long = 0
        ahead = max(ahead, whole_figures(straights[step].rest_worth.units, straights[step].rest_worth.scale))
        longs.append(long)
    scale = max([columns[name].shape.scale for name in columns], default=0)
    return scale + 6 * max(longs) + ahead + 30


def _figures_of(worth):
    """How many figures, at most, the multipliers have more if they are multiplied by a Worth, or divided by it."""
    turned = inverse(worth)
    return sum([len(digits_of(abs(told.units))) + told.scale for told in (worth, turned) if told is not None])

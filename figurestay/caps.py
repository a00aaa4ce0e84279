"""The least cap and the greatest widths with which a formula is safe."""

from figurestay.basics import is_name
from figurestay.dialects import Dialect
from figurestay.errors import NoColumn
from figurestay.events import is_safe
from figurestay.plain import exacts_of, steady_exacts
from figurestay.shaped import Shaped
from figurestay.shapes import Column


def least_cap(shaped):
    """The least cap with which the formula is safe, or None."""
    exacts_of(shaped)
    least = _least_allowed_cap(shaped)
    # Nothing is cut by the greatest of these caps, so no greater one is needed.
    most = max([least] + [shape.width for shape in shaped.uncapped])
    if not is_safe(_with_cap(shaped, most)):
        return None
    while least < most:
        middle = (least + most) // 2
        if is_safe(_with_cap(shaped, middle)):
            most = middle
        else:
            least = middle + 1
    return most


def widest(shaped, name):
    """The greatest whole figures of a column with which the formula is safe, or None."""
    steady_exacts(shaped)
    _need_column(shaped, name)
    least, most = _wholes_of(shaped, name)
    if not is_safe(_with_whole(shaped, name, least)):
        return None
    while least < most:
        middle = (least + most + 1) // 2
        if is_safe(_with_whole(shaped, name, middle)):
            least = middle
        else:
            most = middle - 1
    return least


def widest_pairs(shaped, name, other):
    """All pairs of whole figures of two columns with which the formula is safe, and is not with one more."""
    steady_exacts(shaped)
    _need_column(shaped, name)
    _need_column(shaped, other)
    if name == other:
        raise NoColumn(other)
    first, last = _wholes_of(shaped, name)
    least, other_whole = _wholes_of(shaped, other)
    greatest = {}
    # The more figures the one column has, the fewer the other one can have.
    for whole in range(first, last + 1):
        wider = _with_whole(shaped, name, whole)
        while other_whole >= least and not is_safe(_with_whole(wider, other, other_whole)):
            other_whole = other_whole - 1
        if other_whole >= least:
            greatest[other_whole] = whole
    return sorted([(greatest[whole], whole) for whole in greatest])


def _least_allowed_cap(shaped):
    """The least cap that is at least m, and at least the width of each column, constant and cast."""
    columns = shaped.columns()
    widths = [columns[name].shape.width for name in columns]
    for step, row in enumerate(shaped.formula.rows):
        if row[0] in ("constant", "cast"):
            widths.append(shaped.shapes[step].width)
    return max([1, shaped.dialect.kept] + widths)


def _with_cap(shaped, cap):
    """The same formula in a dialect with another cap."""
    told = shaped.dialect
    dialect = Dialect(cap, told.kept, extra=told.extra, places=told.places, way=told.way)
    return Shaped(shaped.formula, shaped.columns(), dialect)


def _need_column(shaped, name):
    """NoColumn for a value that is no name of a column."""
    if not is_name(name) or name not in shaped.columns():
        raise NoColumn(name)


def _wholes_of(shaped, name):
    """The fewest and the most whole figures that a column can have with its scale."""
    scale = shaped.columns()[name].shape.scale
    return 1 if scale == 0 else 0, shaped.dialect.cap - scale


def _with_whole(shaped, name, whole):
    """The same formula with other whole figures of a column."""
    columns = shaped.columns()
    columns[name] = Column(whole, columns[name].shape.scale, columns[name].mark)
    return Shaped(shaped.formula, columns, shaped.dialect)

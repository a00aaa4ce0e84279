"""Shaped formulas: a shape for each step."""

from figurestay.basics import is_name, need_dict
from figurestay.dialects import need_dialect
from figurestay.errors import BadValue, ColumnsDiffer, NoColumn, TooWide, WideColumn
from figurestay.formulas import need_formula, parts_of
from figurestay.shapes import Column, Shape, some_shape, whole_figures


class Shaped:
    """A formula with columns and a dialect."""

    def __init__(self, formula, columns, dialect):
        need_formula(formula)
        need_columns(columns)
        need_dialect(dialect)
        _need_narrow_columns(columns, dialect.cap)
        _need_narrow_steps(formula, columns, dialect.cap)
        self.formula = formula
        self.dialect = dialect
        self._columns = {name: columns[name] for name in columns}
        self.shapes = _shapes_of_steps(formula, columns, dialect, True)
        self.uncapped = _shapes_of_steps(formula, columns, dialect, False)

    def columns(self):
        """The columns, a new dict from names to Columns."""
        return {name: self._columns[name] for name in self._columns}

    def with_formula(self, formula):
        """The Shaped of another Formula with the same columns and dialect."""
        return Shaped(formula, self._columns, self.dialect)


def need_shaped(value):
    """BadValue for a value that is no Shaped."""
    if not isinstance(value, Shaped):
        raise BadValue(value)


def need_columns(value):
    """BadValue for a value that is no dict from names to Columns."""
    need_dict(value)
    for name in value:
        if not is_name(name) or not isinstance(value[name], Column):
            raise BadValue(value)


def need_same_columns(one, other):
    """ColumnsDiffer for the first name that has not the same Column in two Shapeds."""
    columns, others = one.columns(), other.columns()
    for name in sorted({**columns, **others}):
        if columns.get(name) != others.get(name):
            raise ColumnsDiffer(name)


def _need_narrow_columns(columns, cap):
    for name in sorted(columns):
        if columns[name].shape.width > cap:
            raise WideColumn(name)


def _need_narrow_steps(formula, columns, cap):
    for step, row in enumerate(formula.rows):
        if row[0] == "column" and row[1] not in columns:
            raise NoColumn(row[1])
        if row[0] in ("constant", "cast") and _told_shape(row).width > cap:
            raise TooWide(step)


def _shapes_of_steps(formula, columns, dialect, is_cut):
    """The Shapes of all steps, capped by the dialect or uncapped."""
    shapes = []
    for row in formula.rows:
        shape = uncut_shape(row, [shapes[part] for part in parts_of(row)], columns, dialect)
        shapes.append(dialect.cut(shape) if is_cut else shape)
    return tuple(shapes)


def uncut_shape(row, parts, columns, dialect):
    """The Shape of a step from the Shapes of its parts, however wide."""
    word = row[0]
    if word == "column":
        return columns[row[1]].shape
    if word in ("constant", "cast"):
        return _told_shape(row)
    if word == "negative":
        return parts[0]
    if word == "round":
        return some_shape(parts[0].whole, min(parts[0].scale, row[2]))
    return dialect.uncut(word, parts[0], parts[1])


def _told_shape(row):
    """The Shape of a constant or a cast."""
    if row[0] == "cast":
        return Shape(row[2], row[3])
    return some_shape(whole_figures(row[1], row[2]), row[2])

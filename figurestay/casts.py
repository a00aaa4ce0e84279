"""Casts of steps to their true shapes."""

from figurestay.events import kinds_at
from figurestay.formulas import Formula, need_step, parts_of, with_parts
from figurestay.plain import steady_exacts
from figurestay.shaped import need_shaped, uncut_shape
from figurestay.shapes import Shape
from figurestay.spans import true_shape_of


def cast_at(shaped, steps):
    """The Formula with a cast to its true shape behind each of these steps."""
    need_shaped(shaped)
    for step in steps:
        need_step(shaped.formula, step)
    exacts = steady_exacts(shaped)
    made, places = [], []
    for step, row in enumerate(shaped.formula.rows):
        made.append(with_parts(row, [places[part] for part in parts_of(row)]))
        if step in steps:
            shape = true_shape_of(exacts.spans[step])
            made.append(("cast", len(made) - 1, shape.whole, shape.scale))
        places.append(len(made) - 1)
    return Formula(made)


def fewest_casts(shaped):
    """As few steps as possible that make the formula safe if they are cast; None if there are none."""
    exacts = steady_exacts(shaped)
    casts = []
    for step in range(shaped.formula.size):
        casts.append(_casts_for_shapes(exacts, step, casts))
    return _fewest(casts[-1])


def _casts_for_shapes(exacts, step, casts):
    """For each Shape that a step can get safely, as a tuple, the fewest steps up to it that are cast then."""
    found = {}
    for parts, steps in _choices_of_parts(exacts.shaped.formula.rows[step], casts):
        shape = uncut_shape(exacts.shaped.formula.rows[step], parts, exacts.shaped.columns(), exacts.shaped.dialect)
        shape = exacts.shaped.dialect.cut(shape)
        if len(kinds_at(exacts, step, shape)) == 0:
            _keep_fewer(found, shape, steps)
    fewest, shape = _fewest(found), true_shape_of(exacts.spans[step])
    if fewest is not None and shape.width <= exacts.shaped.dialect.cap:
        _keep_fewer(found, shape, fewest + (step,))
    return found


def _choices_of_parts(row, casts):
    """Each choice of Shapes for the parts of a row, with the steps that are cast for it."""
    choices = [([], ())]
    for part in parts_of(row):
        choices = [
            (shapes + [Shape(whole, scale)], steps + casts[part][(whole, scale)])
            for shapes, steps in choices for whole, scale in casts[part]
        ]
    return choices


def _keep_fewer(found, shape, steps):
    key = shape.whole, shape.scale
    if key not in found or len(steps) < len(found[key]):
        found[key] = steps


def _fewest(found):
    """The shortest tuple of steps in a dict, or None if there is none."""
    return min(list(found.values()), key=len, default=None)

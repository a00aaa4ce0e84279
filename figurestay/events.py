"""Events that a step of a plain formula has for some worths."""

from figurestay.basics import ten_to
from figurestay.plain import corner_worths, exacts_of, small_worths, told_divisor
from figurestay.shapes import is_below_ten_to
from figurestay.spans import common_units, corner_worth, extreme_places, finer_place, indivisible_place
from figurestay.ways import rounded, rounded_quotient
from figurestay.worths import Worth


class Event:
    """The kinds of events of a step, each with worths that show it."""

    def __init__(self, step, kinds):
        self.step = step
        self.kinds = {kind: dict(kinds[kind]) for kind in kinds}

    def __eq__(self, other):
        return isinstance(other, Event) and self.step == other.step and self.kinds == other.kinds


def first_event(shaped):
    """The Event of the first step that has one for some worths, or None."""
    exacts = exacts_of(shaped)
    for step, shape in enumerate(shaped.shapes):
        kinds = kinds_at(exacts, step, shape)
        if len(kinds) > 0:
            return Event(step, kinds)
    return None


def is_safe(shaped):
    """Whether no step has an event for any worths."""
    return first_event(shaped) is None


def kinds_at(exacts, step, shape):
    """The kinds of events that a step with this Shape has, with worths, if no step ahead of it has an event."""
    row = exacts.shaped.formula.rows[step]
    if row[0] in ("column", "constant", "negative"):
        return {}
    if exacts.spans[step] is None:
        return _kinds_of_last_quotient(exacts, step, shape)
    kinds = {}
    if row[0] not in ("cast", "round"):
        place = finer_place(exacts.spans[step], shape.scale)
        if place is not None:
            kinds["lost"] = small_worths(exacts, place)
    scale, way = shape.scale, exacts.shaped.dialect.way
    if row[0] == "round":
        scale, way = row[2], row[3]
    for place in extreme_places(exacts.spans[step]):
        result = rounded(corner_worth(exacts.spans[step], place), scale, way)
        if not is_below_ten_to(result, shape.whole):
            kinds["over"] = corner_worths(exacts, place)
    return kinds


def _kinds_of_last_quotient(exacts, step, shape):
    """The same for a quotient by a column, or by a constant that can divide last alone."""
    formula = exacts.shaped.formula
    row = formula.rows[step]
    if formula.rows[row[2]][0] == "column":
        return _kinds_by_column(exacts, exacts.spans[row[1]], formula.rows[row[2]][1], shape)
    divisor = told_divisor(formula, row[2])
    if divisor.units == 0:
        return {"zero": small_worths(exacts, 0)}
    kinds = {}
    place = _losing_place(exacts.spans[row[1]], divisor, shape.scale)
    if place is not None:
        kinds["lost"] = small_worths(exacts, place)
    place = _over_place(exacts, exacts.spans[row[1]], divisor, shape)
    if place is not None:
        kinds["over"] = corner_worths(exacts, place)
    return kinds


def _kinds_by_column(exacts, span, name, shape):
    """The same for a quotient by a column, which stands nowhere else."""
    told = exacts.shaped.columns()[name]
    unit = Worth(1, told.shape.scale)
    kinds = {}
    if told.holds(Worth(0)):
        kinds["zero"] = {**small_worths(exacts, 0), name: Worth(0)}
    divisor = _losing_divisor(span, told, shape.scale)
    if divisor is not None:
        worths = small_worths(exacts, _losing_place(span, divisor, shape.scale))
        kinds["lost"] = {**worths, name: divisor}
    for divisor in (unit, -unit):
        place = _over_place(exacts, span, divisor, shape)
        if told.holds(divisor) and place is not None:
            kinds["over"] = {**corner_worths(exacts, place), name: divisor}
    return kinds


def _losing_place(span, divisor, scale):
    """The first place of a small worth that is no multiple of so many units of the scale as the divisor, or None."""
    shift = scale + divisor.scale - span.scale
    return indivisible_place(span, ten_to(max(shift, 0)), abs(divisor.units) * ten_to(max(-shift, 0)))


def _losing_divisor(span, told, scale):
    """The least Worth above 0 of a Column by which some exact result loses a digit, or None.

    A number has no divisors from 1 on without a gap that is long, so the units are soon found.
    """
    common = common_units(span)
    shift = scale + told.shape.scale - span.scale
    number, unit = common * ten_to(max(shift, 0)), ten_to(max(-shift, 0))
    if number == 0:
        return None
    units, most = 1, told.highest().units_at(told.shape.scale)
    while units <= most and number % (units * unit) == 0:
        units += 1
    return Worth(units, told.shape.scale) if units <= most else None


def _over_place(exacts, span, divisor, shape):
    """A place of corners at which the quotient by a divisor is rounded to a result too wide for a Shape, or None."""
    for place in extreme_places(span):
        result = rounded_quotient(corner_worth(span, place), divisor, shape.scale, exacts.shaped.dialect.way)
        if not is_below_ten_to(result, shape.whole):
            return place
    return None

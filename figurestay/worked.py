"""Working formulas out, step by step."""

from math import gcd

from figurestay.basics import need_dict, ten_to
from figurestay.errors import BadWorths, NoDivisor, Overflow
from figurestay.formulas import need_formula, parts_of
from figurestay.shaped import need_shaped
from figurestay.shapes import is_below_ten_to
from figurestay.ways import rounded, rounded_quotient
from figurestay.worths import Worth


class Run:
    """What working a formula out has come to."""

    def __init__(self, results, events):
        self.results = tuple(results)
        self.events = tuple(events)

    def __eq__(self, other):
        return isinstance(other, Run) and self.results == other.results and self.events == other.events

    @property
    def ends_at(self):
        """The step with the event zero or over, or None."""
        for step, event in self.events:
            if event != "lost":
                return step
        return None

    @property
    def result(self):
        """The result of the last step, or None if the working ended ahead of it."""
        return self.results[-1] if self.ends_at is None else None


def work(shaped, worths):
    """The Run of a Shaped at the worths of a dict."""
    run, _ = worked_out(shaped, worths)
    return run


def result_of(shaped, worths):
    """The result of the last step."""
    run, too_great = worked_out(shaped, worths)
    if too_great is not None:
        raise Overflow(run.ends_at, too_great)
    if run.ends_at is not None:
        raise NoDivisor()
    return run.result


def worked_out(shaped, worths):
    """The Run, and the rounded result that did not fit its shape, or None."""
    need_shaped(shaped)
    need_dict(worths)
    need_held_worths(shaped, shaped.formula.names(), worths)
    results, events = [], []
    for step, row in enumerate(shaped.formula.rows):
        parts = [results[part] for part in parts_of(row)]
        if row[0] == "quotient" and parts[1].units == 0:
            events.append((step, "zero"))
            return Run(results, events), None
        result, is_changed = result_of_step(shaped, step, parts, worths)
        if is_changed and row[0] not in ("cast", "round"):
            events.append((step, "lost"))
        if not is_below_ten_to(result, shaped.shapes[step].whole):
            events.append((step, "over"))
            return Run(results, events), result
        results.append(result)
    return Run(results, events), None


def need_held_worths(shaped, names, worths):
    """BadWorths for the first of some names for which the dict has no Worth that the column holds."""
    columns = shaped.columns()
    for name in names:
        worth = worths.get(name)
        if not isinstance(worth, Worth) or not columns[name].holds(worth):
            raise BadWorths(name)


def result_of_step(shaped, step, parts, worths):
    """The rounded result of a step, and whether rounding changed its raw result."""
    row = shaped.formula.rows[step]
    scale, way = shaped.shapes[step].scale, shaped.dialect.way
    if row[0] == "quotient":
        result = rounded_quotient(parts[0], parts[1], scale, way)
        return result, result * parts[1] != parts[0]
    if row[0] == "round":
        scale, way = row[2], row[3]
    raw = _raw_result(row, parts, worths)
    result = rounded(raw, scale, way)
    return result, result != raw


def _raw_result(row, parts, worths):
    """What a step that is no quotient makes of the results of its parts."""
    word = row[0]
    if word == "column":
        return worths[row[1]]
    if word == "constant":
        return Worth(row[1], row[2])
    if word == "sum":
        return parts[0] + parts[1]
    if word == "difference":
        return parts[0] - parts[1]
    if word == "product":
        return parts[0] * parts[1]
    if word == "negative":
        return -parts[0]
    return parts[0]


def exact_worth(formula, worths):
    """The fraction that comes if no step rounds, as a number and a divisor without a common factor."""
    need_formula(formula)
    need_dict(worths)
    for name in formula.names():
        if not isinstance(worths.get(name), Worth):
            raise BadWorths(name)
    fractions = []
    for row in formula.rows:
        parts = [fractions[part] for part in parts_of(row)]
        if row[0] == "quotient":
            if parts[1][0] == 0:
                raise NoDivisor()
            fractions.append(_product(parts[0], (parts[1][1], parts[1][0])))
        else:
            fractions.append(_exact_result(row, parts, worths))
    return fractions[-1]


def _exact_result(row, parts, worths):
    """The fraction that a step that is no quotient makes of those of its parts."""
    word = row[0]
    if word in ("column", "constant"):
        worth = _raw_result(row, parts, worths)
        return _lowest(worth.units, ten_to(worth.scale))
    if word == "sum":
        return _sum(parts[0], parts[1])
    if word == "difference":
        return _sum(parts[0], (-parts[1][0], parts[1][1]))
    if word == "product":
        return _product(parts[0], parts[1])
    if word == "negative":
        return -parts[0][0], parts[0][1]
    return parts[0]


def _sum(one, other):
    return _lowest(one[0] * other[1] + other[0] * one[1], one[1] * other[1])


def _product(one, other):
    return _lowest(one[0] * other[0], one[1] * other[1])


def _lowest(number, divisor):
    """A fraction without a common factor, its divisor from 1 on."""
    common = gcd(number, divisor)
    if divisor < 0:
        common = -common
    return number // common, divisor // common

"""Linear formulas: a multiplier for each column, and a rest."""

from figurestay.errors import NotLinear
from figurestay.formulas import parts_of
from figurestay.shaped import need_shaped
from figurestay.worked import result_of_step
from figurestay.worths import Worth, inverse


class Straight:
    """The straight result of a step: a multiplier for each column that stands in it, and a rest."""

    def __init__(self, factors, rest_worth):
        self.factors = factors
        self.rest_worth = rest_worth


def is_linear(shaped):
    """Whether a Shaped is linear."""
    try:
        straights_of(shaped)
    except NotLinear:
        return False
    return True


def need_linear(shaped):
    """NotLinear for the first step that is not linear."""
    straights_of(shaped)


def multipliers(shaped):
    """The multipliers of the last step, a dict from the names of the columns in the formula to Worths."""
    return dict(straights_of(shaped)[-1].factors)


def rest(shaped):
    """The rest of the last step, a Worth."""
    return straights_of(shaped)[-1].rest_worth


def straights_of(shaped):
    """The Straights of all steps; NotLinear for the first step that is not linear."""
    need_shaped(shaped)
    straights = []
    for step, row in enumerate(shaped.formula.rows):
        parts = [straights[part] for part in parts_of(row)]
        straight = _straight_of_step(shaped, step, parts)
        if straight is None:
            raise NotLinear(step)
        straights.append(straight)
    return straights


def _straight_of_step(shaped, step, parts):
    """The Straight of a step from those of its parts, or None if it is not linear."""
    row = shaped.formula.rows[step]
    if row[0] == "column":
        return Straight({row[1]: Worth(1)}, Worth(0))
    if all([len(part.factors) == 0 for part in parts]):
        return _straight_without_columns(shaped, step, parts)
    if row[0] == "sum":
        return _sum(parts[0], parts[1])
    if row[0] == "difference":
        return _sum(parts[0], _multiple(parts[1], Worth(-1)))
    if row[0] == "product":
        return _product(parts[0], parts[1])
    if row[0] == "quotient":
        return _quotient(parts[0], parts[1])
    return _multiple(parts[0], Worth(-1 if row[0] == "negative" else 1))


def _straight_without_columns(shaped, step, parts):
    """The one result of a step in which no column stands, whether it fits or not."""
    results = [part.rest_worth for part in parts]
    if shaped.formula.rows[step][0] == "quotient" and results[1].units == 0:
        return None
    result, _ = result_of_step(shaped, step, results, {})
    return Straight({}, result)


def _sum(one, other):
    factors = dict(one.factors)
    for name in other.factors:
        factors[name] = factors.get(name, Worth(0)) + other.factors[name]
    return Straight(factors, one.rest_worth + other.rest_worth)


def _multiple(straight, worth):
    factors = {name: straight.factors[name] * worth for name in straight.factors}
    return Straight(factors, straight.rest_worth * worth)


def _product(one, other):
    if len(other.factors) == 0:
        return _multiple(one, other.rest_worth)
    return _multiple(other, one.rest_worth) if len(one.factors) == 0 else None


def _quotient(one, other):
    divisor = inverse(other.rest_worth)
    if len(other.factors) > 0 or divisor is None:
        return None
    return _multiple(one, divisor)

"""The least and the greatest results of the steps of linear formulas, and what happens to them for some worths."""

from figurestay.drops import Drops, steps_of
from figurestay.errors import CanOver
from figurestay.formulas import need_step, parts_of
from figurestay.linear import need_linear, straights_of
from figurestay.mixes import Mix, column_reach, mixed
from figurestay.shaped import need_shaped
from figurestay.shapes import is_below_ten_to
from figurestay.tops import greatest_of, least_of, some_not_0
from figurestay.worked import result_of_step
from figurestay.worths import Worth


def extremes(shaped, step):
    """The least and the greatest rounded result of a step, each with worths that give it."""
    drops, steps = _steps_up_to(shaped, step)
    return ends_of(shaped, drops, steps.results[step])


def first_over(shaped):
    """The first step that is over for some worths, and such worths; None if there is none."""
    need_linear(shaped)
    drops = drops_of(shaped)
    return _first_over_of(shaped, drops, steps_of(shaped, drops), shaped.formula.size)


def losing(shaped, step):
    """Worths at which rounding changes the raw result of a step; None if there are none."""
    drops, steps = _steps_up_to(shaped, step)
    if shaped.formula.part(step).names() == ():
        return with_all_names(shaped, {}) if _is_changed_alone(shaped, step) else None
    worths = some_not_0(drops, mixed(steps.raws[step], steps.results[step], Worth(-1)))
    return None if worths is None else with_all_names(shaped, worths)


def drops_of(shaped):
    """The Drops over the columns of a Shaped, still without any."""
    columns = shaped.columns()
    return Drops({name: column_reach(columns[name]) for name in columns})


def ends_of(shaped, drops, mix):
    """The least and the greatest worth of a Mix, each with worths of all columns that give it."""
    low, high = least_of(drops, mix), greatest_of(drops, mix)
    return (low[0], with_all_names(shaped, low[1])), (high[0], with_all_names(shaped, high[1]))


def need_fitting(shaped, drops, steps, many):
    """CanOver for the first of so many steps that is over for some worths."""
    found = _first_over_of(shaped, drops, steps, many)
    if found is not None:
        step, worths = found
        raise CanOver(step, worths)


def _steps_up_to(shaped, step):
    """The Drops and the Steps of a Shaped, if no step ahead of this one can be over."""
    need_shaped(shaped)
    need_step(shaped.formula, step)
    need_linear(shaped)
    drops = drops_of(shaped)
    steps = steps_of(shaped, drops)
    need_fitting(shaped, drops, steps, step)
    return drops, steps


def with_all_names(shaped, worths):
    """A dict of worths with those of the other columns, too."""
    columns = shaped.columns()
    return {name: worths[name] if name in worths else columns[name].lowest() for name in columns}


def _first_over_of(shaped, drops, steps, many):
    """The first of so many steps that is over for some worths, and such worths; None if there is none."""
    known = []
    for step, result in enumerate(steps.results[:many]):
        whole = shaped.shapes[step].whole
        # Where even the bounds fit, the ends need not be known.
        if all([is_below_ten_to(worth, whole) for worth in drops.range_of(result)]):
            continue
        ends = [told for factors, told in known if factors == result.factors]
        if len(ends) == 0:
            ends = [ends_of(shaped, drops, Mix(result.factors, Worth(0)))]
            known.append((result.factors, ends[0]))
        for worth, worths in ends[0]:
            if not is_below_ten_to(worth + result.rest_worth, whole):
                return step, worths
    return None


def _is_changed_alone(shaped, step):
    """Whether rounding changes the raw result of a step in which no column stands."""
    straights = straights_of(shaped)
    results = [straights[part].rest_worth for part in parts_of(shaped.formula.rows[step])]
    _, is_changed = result_of_step(shaped, step, results, {})
    return is_changed

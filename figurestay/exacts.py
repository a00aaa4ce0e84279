"""Exact results of the steps of plain formulas, for all worths of the columns."""

from figurestay.basics import need_whole_number
from figurestay.errors import Divides, NotPlain
from figurestay.formulas import need_step
from figurestay.plain import corner_worths, exacts_of, exacts_up_to, small_worths
from figurestay.shaped import need_same_columns, need_shaped
from figurestay.spans import corner_worth, extreme_places, finer_place, small_worth, true_shape_of


def is_plain(shaped):
    """Whether the formula is plain."""
    try:
        exacts_of(shaped)
    except NotPlain:
        return False
    return True


def exact_range(shaped, step):
    """The least and the greatest exact result of a step, each with corners at which it occurs."""
    exacts, span = _asked_span(shaped, step)
    low, high = extreme_places(span)
    return (
        (corner_worth(span, low), corner_worths(exacts, low)),
        (corner_worth(span, high), corner_worths(exacts, high)),
    )


def true_shape(shaped, step):
    """The least Shape of all exact results of a step."""
    _, span = _asked_span(shaped, step)
    return true_shape_of(span)


def finer(shaped, step, scale):
    """None if all exact results of a step have a scale, otherwise small worths at which one has not."""
    need_shaped(shaped)
    need_step(shaped.formula, step)
    need_whole_number(scale)
    exacts, span = _asked_span(shaped, step)
    place = finer_place(span, scale)
    return None if place is None else small_worths(exacts, place)


def unlike(one, other):
    """None if two formulas have equal exact results for all worths, otherwise small worths at which they have not."""
    need_shaped(one)
    need_shaped(other)
    need_same_columns(one, other)
    exacts, other_exacts = exacts_of(one), exacts_of(other)
    _last_span(exacts)
    _last_span(other_exacts)
    # Columns of one formula alone are varied only while those of the other formula alone are kept; as both results
    # are equal then, neither depends on such a column, so the two are equal everywhere.
    for mine, yours in ((exacts, other_exacts), (other_exacts, exacts)):
        place = _unlike_place(mine, yours)
        if place is not None:
            return small_worths(mine, place)
    return None


def _asked_span(shaped, step):
    """The Exacts up to a step, and the Span of this step."""
    need_shaped(shaped)
    need_step(shaped.formula, step)
    exacts = exacts_up_to(shaped, step)
    return exacts, _last_span(exacts)


def _last_span(exacts):
    """The Span of the last one of the steps; Divides if it has none."""
    span = exacts.spans[-1]
    if span is None:
        raise Divides(len(exacts.spans) - 1)
    return span


def _unlike_place(mine, yours):
    """The first place of the small worths of one formula at which the other one is unlike it, or None."""
    bits = [(bit, mine.varied.index(name)) for bit, name in enumerate(yours.varied) if name in mine.varied]
    for place in range(1 << len(mine.varied)):
        other = sum([((place >> my_bit) & 1) << bit for bit, my_bit in bits])
        if small_worth(mine.spans[-1], place) != small_worth(yours.spans[-1], other):
            return place
    return None

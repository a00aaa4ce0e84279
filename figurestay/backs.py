"""From a told result back to the worths of one column."""

from figurestay.basics import need_dict, need_name
from figurestay.errors import NoColumn, NotOnce
from figurestay.formulas import parts_of
from figurestay.shaped import need_shaped
from figurestay.worked import need_held_worths, worked_out
from figurestay.worths import Worth, compare, need_worth


def told_back(shaped, worths, name, result):
    """The least and the greatest Worth of a column that gives a told result; None if there is none."""
    need_shaped(shaped)
    need_dict(worths)
    need_name(name)
    need_worth(result)
    path = _path_of(shaped.formula, name)
    need_held_worths(shaped, [told for told in shaped.formula.names() if told != name], worths)
    told = shaped.columns()[name]
    scale = told.shape.scale
    ends = told.lowest().units_at(scale), told.highest().units_at(scale)
    # All worths with the place 0 stand side by side, those with -1 ahead of them, those with 1 behind.
    low = _first_at(shaped, worths, path, result, ends, 0)
    behind = _first_at(shaped, worths, path, result, ends, 1)
    if low == behind:
        return None
    return Worth(low, scale), Worth(behind - 1, scale)


def _path_of(formula, name):
    """The steps from the only one of a column to the last one."""
    places = [step for step, row in enumerate(formula.rows) if row == ("column", name)]
    if len(places) == 0:
        raise NoColumn(name)
    if len(places) > 1:
        raise NotOnce(name)
    path = places
    for step, row in enumerate(formula.rows):
        if path[-1] in parts_of(row):
            if row[0] == "quotient" and row[2] == path[-1]:
                raise NotOnce(name)
            path = path + [step]
    return path


def _first_at(shaped, worths, path, result, ends, place):
    """The least number of units between the ends that has this place or a greater one, or the one behind the ends."""
    low, behind = ends[0], ends[1] + 1
    while low < behind:
        middle = (low + behind) // 2
        if _place_of(shaped, worths, path, result, middle) >= place:
            behind = middle
        else:
            low = middle + 1
    return low


def _place_of(shaped, worths, path, result, units):
    """0 if so many units of the column give the result, -1 if they are too few, 1 if too many or no number does."""
    name = shaped.formula.rows[path[0]][1]
    scale = shaped.shapes[path[0]].scale
    run, too_great = worked_out(shaped, {**worths, name: Worth(units, scale)})
    if run.ends_at is None:
        side, last = compare(run.result, result), path[-1]
    elif too_great is not None and run.ends_at in path:
        side, last = too_great.sign(), run.ends_at
    else:
        return 1
    if side == 0:
        return 0
    direction = _direction(shaped.formula.rows, path, run.results, last)
    return side * direction if direction != 0 else 1


def _direction(rows, path, results, last):
    """1 or -1 if the result of a step on the path rises or falls with the column, 0 if it stays."""
    direction = 1
    for place in range(1, path.index(last) + 1):
        row = rows[path[place]]
        if row[0] == "negative" or (row[0] == "difference" and row[2] == path[place - 1]):
            direction = -direction
        elif row[0] in ("product", "quotient"):
            other = row[1] + row[2] - path[place - 1]
            direction = direction * results[other].sign()
    return direction

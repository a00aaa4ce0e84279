"""Linear programs in integers: the greatest worth of a goal while some lines keep their bounds."""

from figurestay.lattices import inner, unit_vectors


class Line:
    """An integer form of the variables and its bounds, None where it has none."""

    def __init__(self, form, low=None, high=None):
        self.form = form
        self.low = low
        self.high = high

    def room(self):
        """How far the bounds are from each other; None if one is missing."""
        return None if self.low is None or self.high is None else self.high - self.low

    def holds(self, size):
        """Whether a worth of the form is within the bounds."""
        return (self.low is None or self.low <= size) and (self.high is None or size <= self.high)


class Table:
    """Lines; as many of them as there are variables stand at one of their ends, and so tell a point.

    Each row, divided by the divisor, tells how much of each standing line goes into a variable, or into a goal.
    """

    def __init__(self, lines, rows, divisor, standing):
        self.lines = lines
        self.rows = rows
        self.divisor = divisor
        self.standing = standing
        self.goal_row = [0] * len(rows)
        self.ends = [0] * len(rows)


class Top:
    """The greatest worth of a goal, rounded down, and the point that has it, times a divisor."""

    def __init__(self, worth, sizes, divisor):
        self.worth = worth
        self.sizes = sizes
        self.divisor = divisor


def first_table(lines, many):
    """A Table in which the lines with the least room stand that tell all variables; they must have both bounds."""
    table = Table(lines, unit_vectors(many), 1, [None] * many)
    rooms = [lines[number].room() for number in range(len(lines))]
    numbers = [number for number in range(len(lines)) if rooms[number] is not None]
    # At first the variables themselves stand, with no ends; each line takes the place of one of them.
    for number in sorted(numbers, key=lambda at: rooms[at]):
        row = _row_of(table, lines[number].form)
        free = [place for place in range(many) if table.standing[place] is None and row[place] != 0]
        if len(free) > 0:
            _exchange(table, row, number, free[0], 0)
    return table


def top_of(table, goal):
    """The Top of a goal while all lines keep their bounds; None if they cannot."""
    made = Table(table.lines, table.rows, table.divisor, list(table.standing))
    made.goal_row = _row_of(table, goal)
    for place, number in enumerate(made.standing):
        line = made.lines[number]
        made.ends[place] = line.high if made.goal_row[place] > 0 else line.low
    if not _settle(made):
        return None
    sizes = [inner(row, made.ends) for row in made.rows]
    return Top(inner(made.goal_row, made.ends) // made.divisor, sizes, made.divisor)


def rough_span(table, place):
    """The least and the greatest integer that a variable can be while the standing lines keep their bounds."""
    low = high = 0
    for number, standing in zip(table.rows[place], table.standing):
        line = table.lines[standing]
        low = low + number * (line.low if number > 0 else line.high)
        high = high + number * (line.high if number > 0 else line.low)
    return -(-low // table.divisor), high // table.divisor


def _row_of(table, form):
    """How much of each standing line, divided by the divisor, goes into a form."""
    made = [0] * len(form)
    for number, row in zip(form, table.rows):
        if number != 0:
            made = [cell + number * more for cell, more in zip(made, row)]
    return made


def _exchange(table, row, number, place, end):
    """A line with this row comes to stand at an end, instead of the line that stands in this place."""
    turn = 1 if row[place] > 0 else -1
    divisor = row[place] * turn
    table.rows = [_exchanged(cells, row, place, turn, divisor, table.divisor) for cells in table.rows]
    table.goal_row = _exchanged(table.goal_row, row, place, turn, divisor, table.divisor)
    table.divisor = divisor
    table.standing[place] = number
    table.ends[place] = end


def _exchanged(cells, row, place, turn, divisor, old):
    by = cells[place] * turn
    if by == 0:
        return [cell * divisor // old for cell in cells]
    made = [(cell * divisor - by * more) // old for cell, more in zip(cells, row)]
    made[place] = by
    return made


def _settle(table):
    """Bring all lines within their bounds, the goal as great as can be; False if they cannot be brought there."""
    while True:
        number, side = _last_outside(table)
        if number is None:
            return True
        line = table.lines[number]
        row = _row_of(table, line.form)
        place = _place_for(table, row, side)
        if place is None:
            return False
        _exchange(table, row, number, place, line.high if side > 0 else line.low)


def _last_outside(table):
    """The last line that is not within its bounds, and 1 or -1 if it is above or below them; None and 0 if all are."""
    point, divisor = [inner(row, table.ends) for row in table.rows], table.divisor
    for number in range(len(table.lines) - 1, -1, -1):
        if number in table.standing:
            continue
        line = table.lines[number]
        size = inner(line.form, point)
        if line.high is not None and size > line.high * divisor:
            return number, 1
        if line.low is not None and size < line.low * divisor:
            return number, -1
    return None, 0


def _place_for(table, row, side):
    """The place whose line can give way with the least loss of the goal, or None; of several that of the last line."""
    goal, best = table.goal_row, None
    for place, standing in enumerate(table.standing):
        line = table.lines[standing]
        if row[place] == 0 or line.low == line.high:
            continue
        inwards = -1 if table.ends[place] == line.high else 1
        if row[place] * inwards * side > 0:
            continue
        if best is None:
            best = place
            continue
        loss, other = abs(goal[place] * row[best]), abs(goal[best] * row[place])
        if loss < other or (loss == other and standing > table.standing[best]):
            best = place
    return best

"""Linear programs in integers: the greatest worth of a goal while some lines keep their bounds."""

from figurestay.lattices import inner, unit_forms


class Line:
    """An integer form of the variables and its bounds, None where it has none."""

    def __init__(self, form, low=None, high=None):
        self.form = form
        self.low = low
        self.high = high


class Table:
    """A goal and lines; as many lines as there are variables stand at one of their ends, and so tell a point.

    Each row, divided by the divisor, tells how much of each standing line goes into a variable, or into the goal.
    """

    def __init__(self, goal, lines, rows, goal_row, divisor, standing, ends):
        self.goal = goal
        self.lines = lines
        self.rows = rows
        self.goal_row = goal_row
        self.divisor = divisor
        self.standing = standing
        self.ends = ends


def first_table(goal, lines):
    """The Table in which the first lines, as many as there are variables, stand at the ends that are best for the goal.

    These lines have both bounds, and tell all variables.
    """
    many = len(goal)
    units = unit_forms(many)
    # At first the variables themselves stand, with no ends; each line takes the place of one of them.
    table = Table(goal, list(lines), units, list(goal), 1, [None] * many, [0] * many)
    for number in range(many):
        row = row_of(table, lines[number].form)
        free = [place for place in range(many) if table.standing[place] is None and row[place] != 0]
        exchange(table, row, number, free[0], 0)
    for place, number in enumerate(table.standing):
        line = table.lines[number]
        table.ends[place] = line.high if table.goal_row[place] > 0 else line.low
    return table


def copied(table):
    """A Table that can be changed without changing this one."""
    return Table(
        table.goal, list(table.lines), table.rows, table.goal_row, table.divisor, list(table.standing), list(table.ends)
    )


def with_line(table, line):
    """A Table that has one more line, and that can be changed without changing this one."""
    made = copied(table)
    made.lines.append(line)
    return made


def point_of(table):
    """The variables at the point where the table stands, times the divisor."""
    return [inner(row, table.ends) for row in table.rows]


def height_of(table):
    """What the goal comes to where the table stands, times the divisor."""
    return inner(table.goal_row, table.ends)


def row_of(table, form):
    """How much of each standing line, divided by the divisor, goes into a form."""
    made = [0] * len(form)
    for number, row in zip(form, table.rows):
        if number != 0:
            made = [cell + number * more for cell, more in zip(made, row)]
    return made


def exchange(table, row, number, place, end):
    """A line with this row comes to stand at an end, instead of the line that stands in this place."""
    turn = 1 if row[place] > 0 else -1
    divisor = row[place] * turn
    table.rows = [_exchanged(cells, row, place, turn, divisor, table.divisor) for cells in table.rows]
    table.goal_row = _exchanged(table.goal_row, row, place, turn, divisor, table.divisor)
    table.divisor = divisor
    table.standing[place] = number
    table.ends[place] = end


def _exchanged(cells, row, place, turn, divisor, old):
    by = cells[place] * turn
    if by == 0:
        return [cell * divisor // old for cell in cells]
    made = [(cell * divisor - by * more) // old for cell, more in zip(cells, row)]
    made[place] = by
    return made


def settle(table, least):
    """Bring all lines within their bounds, the goal as great as can be; False if it cannot be more than the least."""
    while height_of(table) >= (least + 1) * table.divisor:
        number, side = _last_outside(table)
        if number is None:
            return True
        line = table.lines[number]
        row = row_of(table, line.form)
        place = _place_for(table, row, side)
        if place is None:
            return False
        exchange(table, row, number, place, line.high if side > 0 else line.low)
    return False


def draw_in(table, least):
    """Bring the bounds of the standing lines together that would keep the goal from being more than the least."""
    room = height_of(table) - (least + 1) * table.divisor
    for place, number in enumerate(table.standing):
        line, loss = table.lines[number], abs(table.goal_row[place])
        if loss == 0:
            continue
        low = high = table.ends[place]
        if high == line.high:
            low = high - room // loss
            if line.low is not None:
                low = max(low, line.low)
        else:
            high = low + room // loss
            if line.high is not None:
                high = min(high, line.high)
        table.lines[number] = Line(line.form, low, high)


def _last_outside(table):
    """The last line that is not within its bounds, and 1 or -1 if it is above or below them; None and 0 if all are."""
    point, divisor = point_of(table), table.divisor
    for number in range(len(table.lines) - 1, -1, -1):
        if number in table.standing:
            continue
        line = table.lines[number]
        size = inner(line.form, point)
        if line.high is not None and size > line.high * divisor:
            return number, 1
        if line.low is not None and size < line.low * divisor:
            return number, -1
    return None, 0


def _place_for(table, row, side):
    """The place whose line can give way with the least loss of the goal, or None; of several that of the last line."""
    goal, best = table.goal_row, None
    for place, standing in enumerate(table.standing):
        line = table.lines[standing]
        if row[place] == 0 or line.low == line.high:
            continue
        inwards = -1 if table.ends[place] == line.high else 1
        if row[place] * inwards * side > 0:
            continue
        if best is None:
            best = place
            continue
        loss, other = abs(goal[place] * row[best]), abs(goal[best] * row[place])
        if loss < other or (loss == other and standing > table.standing[best]):
            best = place
    return best

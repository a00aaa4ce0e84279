"""Linear programs in integers: the greatest worth of a goal while some lines keep their bounds."""

from figurestay.lattices import inner, unit_forms

# The line of the goal is the first one of each table.
GOAL = 0


class Line:
    """An integer form of the variables and its bounds, None where it has none."""

    def __init__(self, form, low=None, high=None):
        self.form = form
        self.low = low
        self.high = high


class Table:
    """All lines, written by those that stand at one of their ends; as many stand there as there are variables.

    Each cell, divided by the divisor, tells how much of the line in this place goes into the line of the row.
    """

    def __init__(self, lines, cells, divisor, standing, ends):
        self.lines = lines
        self.cells = cells
        self.divisor = divisor
        self.standing = standing
        self.ends = ends


def first_table(goal, lines):
    """The Table in which the first lines, as many as there are variables, stand at the ends that are best for the goal.

    These lines have both bounds, and tell all variables.
    """
    many = len(goal)
    all_lines = [Line(goal)] + [Line(form) for form in unit_forms(many)] + lines
    standing = [1 + place for place in range(many)]
    table = Table(all_lines, [list(line.form) for line in all_lines], 1, standing, [0] * many)
    for number in range(many + 1, 2 * many + 1):
        row = table.cells[number]
        free = [place for place in range(many) if table.standing[place] <= many and row[place] != 0]
        exchange(table, number, free[0], 0)
    for place, number in enumerate(table.standing):
        line = table.lines[number]
        table.ends[place] = line.high if table.cells[GOAL][place] > 0 else line.low
    return table


def copied(table):
    """A Table that can be changed without changing this one."""
    return Table(list(table.lines), list(table.cells), table.divisor, list(table.standing), list(table.ends))


def size_of(table, number):
    """What a line comes to, times the divisor."""
    return inner(table.cells[number], table.ends)


def add_line(table, line):
    """One more line, a sum of multiples of the variables."""
    rows = table.cells[1:1 + len(line.form)]
    row = [inner(line.form, [cells[place] for cells in rows]) for place in range(len(line.form))]
    table.cells.append(row)
    table.lines.append(line)


def exchange(table, number, place, end):
    """A line comes to stand at an end, instead of the line that stands in this place."""
    old, row = table.divisor, table.cells[number]
    turn = 1 if row[place] > 0 else -1
    divisor = row[place] * turn
    made = []
    for cells in table.cells:
        by = cells[place] * turn
        if by == 0:
            made.append([cell * divisor // old for cell in cells])
        else:
            changed = [(cell * divisor - by * more) // old for cell, more in zip(cells, row)]
            changed[place] = by
            made.append(changed)
    table.cells = made
    table.divisor = divisor
    table.standing[place] = number
    table.ends[place] = end


def settle(table, least):
    """Bring all lines within their bounds, the goal as great as can be; False if it cannot be more than the least."""
    while size_of(table, GOAL) >= (least + 1) * table.divisor:
        number, side = _first_outside(table)
        if number is None:
            return True
        place = _place_for(table, number, side)
        if place is None:
            return False
        line = table.lines[number]
        exchange(table, number, place, line.high if side > 0 else line.low)
    return False


def _first_outside(table):
    """The first line that is not within its bounds, and 1 or -1 if it is above or below them; None and 0 if all are."""
    for number, line in enumerate(table.lines):
        if line.low is None and line.high is None:
            continue
        size = size_of(table, number)
        if line.high is not None and size > line.high * table.divisor:
            return number, 1
        if line.low is not None and size < line.low * table.divisor:
            return number, -1
    return None, 0


def _place_for(table, number, side):
    """The place whose line can give way with the least loss of the goal, or None; of several that of the first line."""
    row, goal, best = table.cells[number], table.cells[GOAL], None
    for place, standing in enumerate(table.standing):
        line = table.lines[standing]
        if row[place] == 0 or line.low == line.high:
            continue
        inwards = -1 if table.ends[place] == line.high else 1
        if row[place] * inwards * side > 0:
            continue
        if best is None:
            best = place
            continue
        loss, other = abs(goal[place] * row[best]), abs(goal[best] * row[place])
        if loss < other or (loss == other and standing < table.standing[best]):
            best = place
    return best

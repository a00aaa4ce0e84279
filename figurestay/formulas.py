"""Formulas: rows of steps in the order of working."""

from figurestay.basics import is_an_integer, is_name, is_whole_number, need_list, need_name, need_whole_number
from figurestay.errors import BadStep, BadValue, NoFigures
from figurestay.ways import WAYS, need_way
from figurestay.worths import Worth

# How many parts a step of each word has; their numbers stand behind the word.
PARTS = {
    "column": 0,
    "constant": 0,
    "sum": 2,
    "difference": 2,
    "product": 2,
    "quotient": 2,
    "negative": 1,
    "cast": 1,
    "round": 1,
}

# How many entries the row of each word has behind its parts.
FIELDS = {
    "column": 1,
    "constant": 2,
    "sum": 0,
    "difference": 0,
    "product": 0,
    "quotient": 0,
    "negative": 0,
    "cast": 2,
    "round": 2,
}


class Formula:
    """Steps of which each but the last one is a part of exactly one later step."""

    def __init__(self, rows):
        need_list(rows)
        wrong = _first_wrong_step(rows)
        if wrong is not None:
            raise BadStep(wrong)
        self.rows = tuple(rows)

    def __eq__(self, other):
        return isinstance(other, Formula) and self.rows == other.rows

    def __add__(self, other):
        return _combined("sum", self, as_formula(other))

    def __radd__(self, other):
        return _combined("sum", as_formula(other), self)

    def __sub__(self, other):
        return _combined("difference", self, as_formula(other))

    def __rsub__(self, other):
        return _combined("difference", as_formula(other), self)

    def __mul__(self, other):
        return _combined("product", self, as_formula(other))

    def __rmul__(self, other):
        return _combined("product", as_formula(other), self)

    def __neg__(self):
        return Formula(self.rows + (("negative", self.size - 1),))

    @property
    def size(self):
        """The number of steps."""
        return len(self.rows)

    def names(self):
        """The names of the columns, each once, ascending."""
        return tuple(sorted({row[1] for row in self.rows if row[0] == "column"}))

    def parts(self, step):
        """The numbers of the parts of a step."""
        need_step(self, step)
        return parts_of(self.rows[step])

    def part(self, step):
        """The part formula of a step."""
        need_step(self, step)
        first = _first_leading_to(self.rows, step)
        return Formula([_moved(row, -first) for row in self.rows[first:step + 1]])

    def replaced(self, step, other):
        """This formula with another one in the place of the part formula of a step."""
        need_step(self, step)
        need_formula(other)
        first = _first_leading_to(self.rows, step)
        longer = first + other.size - (step + 1)
        ahead = list(self.rows[:first])
        instead = [_moved(row, first) for row in other.rows]
        behind = [_moved(row, longer, step) for row in self.rows[step + 1:]]
        return Formula(ahead + instead + behind)

    def over(self, other):
        """The quotient of this formula and another one, an integer or a Worth."""
        return _combined("quotient", self, as_formula(other))

    def cast(self, whole, scale):
        """This formula with a cast behind it."""
        need_whole_number(whole)
        need_whole_number(scale)
        if whole == 0 and scale == 0:
            raise NoFigures()
        return Formula(self.rows + (("cast", self.size - 1, whole, scale),))

    def rounded(self, scale, way):
        """This formula with a round behind it."""
        need_whole_number(scale)
        need_way(way)
        return Formula(self.rows + (("round", self.size - 1, scale, way),))


def column(name):
    """The Formula of a column."""
    need_name(name)
    return Formula([("column", name)])


def constant(units, scale=0):
    """The Formula of a written constant."""
    need_whole_number(units)
    need_whole_number(scale)
    return Formula([("constant", units, scale)])


def need_formula(value):
    """BadValue for a value that is no Formula."""
    if not isinstance(value, Formula):
        raise BadValue(value)


def need_step(formula, value):
    """BadStep for a value that is no number of a step."""
    if not is_whole_number(value) or value >= formula.size:
        raise BadStep(value)


def parts_of(row):
    """The numbers of the parts of a row."""
    return row[1:1 + PARTS[row[0]]]


def as_formula(value):
    """A Formula as it is; an integer or a Worth as a constant, or as the negative of one."""
    if isinstance(value, Formula):
        return value
    if is_an_integer(value):
        return _signed_constant(value, 0)
    if isinstance(value, Worth):
        return _signed_constant(value.units, value.scale)
    raise BadValue(value)


def _signed_constant(units, scale):
    if units < 0:
        return -constant(-units, scale)
    return constant(units, scale)


def _combined(word, one, other):
    """The Formula of an operation upon two formulas."""
    behind = tuple([_moved(row, one.size) for row in other.rows])
    last = (word, one.size - 1, one.size + other.size - 1)
    return Formula(one.rows + behind + (last,))


def with_parts(row, parts):
    """A row with other numbers of its parts."""
    return row[:1] + tuple(parts) + row[1 + len(parts):]


def _moved(row, by, start=0):
    """A row whose parts from a number on have moved by so many steps."""
    return with_parts(row, [part + by if part >= start else part for part in parts_of(row)])


def _first_leading_to(rows, step):
    """The first of the steps that lead to a step; they are all that stand between the two."""
    while PARTS[rows[step][0]] > 0:
        step = rows[step][1]
    return step


def _first_wrong_step(rows):
    """The number of the first wrong row, that of the rows if they do not end as one formula, or None."""
    waiting = []
    for number, row in enumerate(rows):
        if not _is_row(row):
            return number
        parts = parts_of(row)
        # With fewer steps than parts the slice is too short, so it is unequal to the parts.
        first = max(len(waiting) - len(parts), 0)
        if parts != tuple(waiting[first:]):
            return number
        waiting = waiting[:first] + [number]
    return None if len(waiting) == 1 else len(rows)


def _is_row(row):
    """Whether a value is a row of a step, whatever its parts are."""
    if not isinstance(row, tuple) or len(row) == 0 or not isinstance(row[0], str):
        return False
    word = row[0]
    if word not in PARTS or len(row) != 1 + PARTS[word] + FIELDS[word]:
        return False
    if len([part for part in parts_of(row) if not is_whole_number(part)]) > 0:
        return False
    return _has_good_fields(row)


def _has_good_fields(row):
    """Whether the entries of a row behind its parts are as its word asks."""
    word = row[0]
    if word == "column":
        return is_name(row[1])
    if word == "constant":
        return is_whole_number(row[1]) and is_whole_number(row[2])
    if word == "cast":
        return is_whole_number(row[2]) and is_whole_number(row[3]) and row[2] + row[3] > 0
    if word == "round":
        return is_whole_number(row[2]) and row[3] in WAYS
    return True

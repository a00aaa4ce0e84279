"""Formulas as texts."""

from figurestay.basics import ten_to
from figurestay.errors import BadText, BadValue, NotAFormula
from figurestay.formulas import Formula, need_formula, parts_of
from figurestay.ways import WAYS
from figurestay.worths import Worth

LONGEST_TEXT = 400
MOST_OPEN = 40
LONGEST_NAME = 8
MOST_DIGITS = 100
# The numbers of casts and rounds have so many digits at most.
FEW_DIGITS = 3

LETTERS = "abcdefghijklmnopqrstuvwxyz"
DIGITS = "0123456789"

SUMS = {"+": "sum", "-": "difference"}
PRODUCTS = {"*": "product", "/": "quotient"}
SIGNS = {"sum": "+", "difference": "-", "product": "*", "quotient": "/"}

# How closely a step binds: a sum, a product, or what can stand as a factor without brackets.
SUM = 1
PRODUCT = 2
FACTOR = 3


class Level:
    """What is read of a formula, and what is waiting for its right side: a number of a step and a word, or None.

    opened is the word cast or round, or nothing, ahead of the bracket that the formula stands in.
    """

    def __init__(self, opened):
        self.opened = opened
        self.minuses = 0
        self.product_step = None
        self.product_word = None
        self.sum_step = None
        self.sum_word = None


class Reader:
    """A told text and the place up to which it is read, the rows of its steps, and the formulas that are still open."""

    def __init__(self, text):
        self.told = text
        self.at = 0
        self.rows = []
        self.levels = [Level("")]

    def skip_blanks(self):
        """Go on to what is no blank."""
        while self.char() == " ":
            self.at += 1

    def char(self):
        """The character at the place, nothing behind the end."""
        return self.told[self.at:self.at + 1]

    def need(self, char):
        """Go on behind blanks and this character."""
        self.skip_blanks()
        if self.char() != char:
            raise NotAFormula(self.at)
        self.at += 1

    def some(self, allowed, most):
        """Go on behind so many of the allowed characters at most, and return them."""
        first = self.at
        while self.char() != "" and self.char() in allowed and self.at - first < most:
            self.at += 1
        return self.told[first:self.at]

    def add_row(self, row):
        """One more step; its number."""
        self.rows.append(row)
        return len(self.rows) - 1


def read_formula(text):
    """The Formula of a text."""
    if not isinstance(text, str) or len(text) > LONGEST_TEXT or _is_deep(text):
        raise BadText(text)
    reader = Reader(text)
    while True:
        _read_factor(reader)
        # Behind a factor all brackets close that can close; a sign goes on with the formula that is open then.
        if not _goes_on(reader):
            return Formula(reader.rows)


def written(formula):
    """The shortest text of a Formula."""
    need_formula(formula)
    texts, closeness = [], []
    for row in formula.rows:
        text = _text_of_row(row, texts, closeness)
        if text is None:
            raise BadValue(formula)
        texts.append(text)
        closeness.append(_closeness_of(row))
    return texts[-1]


def _is_deep(text):
    """Whether there is a place ahead of which too many brackets are open."""
    is_open = 0
    for char in text:
        if char == "(":
            is_open += 1
        elif char == ")":
            is_open = is_open - 1
        if is_open > MOST_OPEN:
            return True
    return False


def _read_factor(reader):
    """Read up to the end of a column or a constant, with all that opens ahead of it."""
    while True:
        reader.skip_blanks()
        char = reader.char()
        if char == "-":
            reader.at += 1
            level = reader.levels[-1]
            level.minuses += 1
        elif char == "(":
            reader.at += 1
            reader.levels.append(Level(""))
        elif char != "" and char in LETTERS:
            if _read_name(reader):
                return
        elif char != "" and char in DIGITS:
            _end_factor(reader, _read_number(reader))
            return
        else:
            raise NotAFormula(reader.at)


def _read_name(reader):
    """Read a name: True if it is a column, False if it opens a bracket."""
    name = reader.some(LETTERS, LONGEST_NAME)
    if reader.char() != "" and reader.char() in LETTERS:
        raise NotAFormula(reader.at)
    behind = reader.at
    reader.skip_blanks()
    if name in ("cast", "round") and reader.char() == "(":
        reader.at += 1
        reader.levels.append(Level(name))
        return False
    reader.at = behind
    _end_factor(reader, ("column", name))
    return True


def _read_number(reader):
    """Read a number, and return the row of its constant."""
    ahead = _digits_without_zeros(reader, MOST_DIGITS)
    behind = ""
    if reader.char() == ".":
        reader.at += 1
        behind = reader.some(DIGITS, MOST_DIGITS)
        if behind == "":
            raise NotAFormula(reader.at)
    return "constant", int(ahead + behind), len(behind)


def _digits_without_zeros(reader, most):
    """Read digits; a 0 ahead stands alone."""
    return reader.some("0", 1) or reader.some(DIGITS, most)


def _end_factor(reader, row):
    """A factor ends with this step; its negatives and the product that waits for it end, too."""
    level = reader.levels[-1]
    step = reader.add_row(row)
    for _ in range(level.minuses):
        step = reader.add_row(("negative", step))
    level.minuses = 0
    if level.product_word is not None:
        step = reader.add_row((level.product_word, level.product_step, step))
    level.product_step, level.product_word = step, None


def _end_term(level, reader):
    """A term ends; the sum that waits for it ends, too."""
    step = level.product_step
    if level.sum_word is not None:
        step = reader.add_row((level.sum_word, level.sum_step, step))
    level.sum_step, level.sum_word = step, None
    level.product_step = None


def _goes_on(reader):
    """Whether a sign stands behind a factor and all brackets that close there; otherwise the text ends."""
    while True:
        reader.skip_blanks()
        level, char = reader.levels[-1], reader.char()
        if char != "" and char in PRODUCTS:
            level.product_word = PRODUCTS[char]
            reader.at += 1
            return True
        if char != "" and char in SUMS:
            _end_term(level, reader)
            level.sum_word = SUMS[char]
            reader.at += 1
            return True
        if char == "" and len(reader.levels) == 1:
            _end_term(level, reader)
            return False
        if len(reader.levels) == 1:
            raise NotAFormula(reader.at)
        reader.need(")" if level.opened == "" else ",")
        _close(reader)


def _close(reader):
    """Read what is left of a bracket behind its formula, and go back to the formula that it stands in."""
    level = reader.levels[-1]
    _end_term(level, reader)
    row = None
    if level.opened != "":
        row = _read_fields(reader, level)
        reader.need(")")
    reader.levels.pop()
    if row is None:
        # What stood in the brackets is a step already; it goes on as any other factor.
        row = reader.rows.pop()
    _end_factor(reader, row)


def _read_fields(reader, level):
    """Read what stands behind the formula of a cast or a round, and return its row."""
    first = _read_small(reader, False)
    reader.need(",")
    if level.opened == "cast":
        return "cast", level.sum_step, first, _read_small(reader, first == 0)
    return "round", level.sum_step, first, _read_way(reader)


def _read_small(reader, is_above_0):
    """Read an integer of a cast or a round."""
    reader.skip_blanks()
    if is_above_0 and reader.char() == "0":
        raise NotAFormula(reader.at)
    digits = _digits_without_zeros(reader, FEW_DIGITS)
    if digits == "":
        raise NotAFormula(reader.at)
    return int(digits)


def _read_way(reader):
    """Read a way, letter by letter as long as one begins so."""
    reader.skip_blanks()
    way = ""
    while way not in WAYS:
        longer = way + reader.char()
        if longer == way or not any([told.startswith(longer) for told in WAYS]):
            raise NotAFormula(reader.at)
        way = longer
        reader.at += 1
    return way


def _closeness_of(row):
    if row[0] in ("sum", "difference"):
        return SUM
    return PRODUCT if row[0] in ("product", "quotient") else FACTOR


def _text_of_row(row, texts, closeness):
    """The shortest text of a step from those of its parts, or None if it has none."""
    word = row[0]
    if word == "column":
        return row[1]
    if word == "constant":
        if row[2] > MOST_DIGITS or row[1] >= ten_to(MOST_DIGITS + row[2]):
            return None
        return Worth(row[1], row[2]).text(row[2])
    if word in ("cast", "round"):
        if row[2] >= ten_to(FEW_DIGITS) or (word == "cast" and row[3] >= ten_to(FEW_DIGITS)):
            return None
        return f"{word}({texts[row[1]]},{row[2]},{row[3]})"
    own = _closeness_of(row)
    parts = parts_of(row)
    last = _within(texts[parts[-1]], closeness[parts[-1]], min(own + 1, FACTOR))
    if word == "negative":
        return f"-{last}"
    return f"{_within(texts[parts[0]], closeness[parts[0]], own)}{SIGNS[word]}{last}"


def _within(text, closeness, least):
    """A text, with brackets if it does not bind closely enough."""
    return text if closeness >= least else f"({text})"

"""What several tests need: values of all kinds, checks of refusals, formulas as trees, formulas by chance."""

import itertools
import unittest
from fractions import Fraction

from figurestay.dialects import Dialect
from figurestay.errors import BadValue, NoFigures
from figurestay.formulas import Formula, column, constant
from figurestay.linear import is_linear, multipliers, rest
from figurestay.shaped import Shaped
from figurestay.shapes import Column, Shape
from figurestay.ways import WAYS, divided
from figurestay.worked import work
from figurestay.worths import Worth


def nested(depth):
    """A list in a tuple in a list .., so many deep."""
    value = "bottom"
    for level in range(depth):
        value = [value] if level % 2 else (value,)
    return value


def values_of_all_kinds():
    """Values of each kind that a caller may pass by mistake."""
    shaped = Shaped(column("a") + 1, {"a": Column(2, 1)}, Dialect(6, 2))
    return [
        None, True, False, -10 ** 30, -1, 0, 1, 2, 3, 7, 41, 10 ** 30,
        "", "a", "abc", "A", "a b", "abcdefghi", "signed", "positive", "floor", "halfup", "sum", "quotient",
        "1", "-0.5", "05", "-0", "\u0663", (), (1,), (1, 2), ("column", "a"), ("constant", 1, 0), [], [1], [None],
        [("column", "a")], [Worth(1)], (Worth(2, 1), Worth(3)), {}, {"a": 1}, {"a": Column(1, 0)},
        {"a": Worth(1)}, {1: 2}, {None: None}, nested(20), {"a": {"b": {"c": []}}},
        Worth(0), Worth(15, 1), Worth(-3), Shape(2, 1), Shape(0, 1), Column(2, 1), Column(0, 1, "positive"),
        Dialect(6, 2), column("a"), constant(5, 2), shaped, work(shaped, {"a": Worth(1)}), NoFigures(), BadValue(1),
    ]


def is_integer(value):
    return type(value) is int


def is_whole(value):
    return type(value) is int and value >= 0


def is_worth(value):
    return type(value) is Worth


class Case(unittest.TestCase):
    """A test case that knows how calls of figurestay are refused."""

    def refused(self, error, fields, call, *args, **named):
        """That a call raises just this error, with just these fields, as they were passed."""
        with self.assertRaises(error) as caught:
            call(*args, **named)
        self.assertIs(type(caught.exception), error)
        self.assertEqual(sorted(vars(caught.exception)), sorted(fields))
        for name, value in fields.items():
            found = getattr(caught.exception, name)
            self.assertIs(type(found), type(value))
            self.assertTrue(found is value or found == value, (found, value))

    def refuses_all_but(self, is_good, call, error=BadValue, field="value"):
        """That call(value) raises the error for each value that is not as described, with the value itself."""
        refused = 0
        for value in values_of_all_kinds():
            if is_good(value):
                continue
            with self.assertRaises(error, msg=repr(value)) as caught:
                call(value)
            self.assertIs(type(caught.exception), error, repr(value))
            self.assertIs(getattr(caught.exception, field), value)
            refused += 1
        self.assertGreater(refused, 20)


def tree_of(formula, step=None):
    """A formula as nested tuples: a word, the trees of its parts, its other entries."""
    step = len(formula.rows) - 1 if step is None else step
    row = formula.rows[step]
    many = {"column": 0, "constant": 0, "negative": 1, "cast": 1, "round": 1}.get(row[0], 2)
    parts = tuple(tree_of(formula, part) for part in row[1:1 + many])
    return row[0], parts, row[1 + many:]


def rows_of(tree):
    """The rows of the steps of a tree, in the order of working."""
    rows = []

    def put(node):
        word, parts, fields = node
        numbers = tuple(put(part) for part in parts)
        rows.append((word,) + numbers + fields)
        return len(rows) - 1

    put(tree)
    return rows


def chance_tree(chance, size, names="abc"):
    """A tree of about so many steps, drawn by a random.Random."""
    if size <= 1:
        if chance.random() < 0.6:
            return "column", (), (chance.choice(names),)
        return "constant", (), (chance.choice([0, 1, 2, 5, 8, 25, 99, 125, 1250]), chance.randrange(4))
    kind = chance.random()
    if kind < 0.25:
        part = chance_tree(chance, size - 1, names)
        if kind < 0.08:
            return "negative", (part,), ()
        if kind < 0.16:
            whole, scale = chance.choice([(0, 1), (1, 0), (2, 1), (3, 2), (4, 0)])
            return "cast", (part,), (whole, scale)
        return "round", (part,), (chance.randrange(4), chance.choice(["floor", "cut", "halfeven", "away"]))
    left = chance.randrange(1, max(2, size - 1))
    parts = chance_tree(chance, left, names), chance_tree(chance, max(1, size - 1 - left), names)
    return chance.choice(["sum", "difference", "product", "product", "quotient"]), parts, ()


def chance_formula(chance, size, names="abc"):
    return Formula(rows_of(chance_tree(chance, size, names)))


def fraction(worth):
    return Fraction(worth.units, 10 ** worth.scale)


def worths_of(told):
    """All Worths that a Column holds, ascending."""
    scale = told.shape.scale
    return [Worth(units, scale) for units in range(told.lowest().units_at(scale), told.highest().units_at(scale) + 1)]


def all_worths(columns, names=None):
    """A dict of worths for each choice of worths of the columns; those that are not named stay at their least ones."""
    names = sorted(columns) if names is None else names
    others = {name: columns[name].lowest() for name in columns if name not in names}
    choices = itertools.product(*[worths_of(columns[name]) for name in names])
    return [{**others, **dict(zip(names, chosen))} for chosen in choices]


def exact_results(formula, worths):
    """What each step gives if none rounds, as Fractions; None for what divides by 0, and for what needs it."""
    results = []
    for row in formula.rows:
        many = {"column": 0, "constant": 0, "negative": 1, "cast": 1, "round": 1}.get(row[0], 2)
        parts = [results[part] for part in row[1:1 + many]]
        if None in parts or (row[0] == "quotient" and parts[1] == 0):
            results.append(None)
        elif row[0] == "column":
            results.append(fraction(worths[row[1]]))
        elif row[0] == "constant":
            results.append(Fraction(row[1], 10 ** row[2]))
        elif many == 1:
            results.append(-parts[0] if row[0] == "negative" else parts[0])
        else:
            one, other = parts
            results.append(one / other if row[0] == "quotient" else
                           {"sum": one + other, "difference": one - other, "product": one * other}[row[0]])
    return results


def has_scale(number, scale):
    return (number * 10 ** scale).denominator == 1


def first_not_plain(shaped):
    """The first step that is not as [14] says, found with all worths of the columns; or None."""
    rows, every = shaped.formula.rows, []
    if any(row[0] in ("cast", "round") for row in rows[:-1]):
        choices = all_worths(shaped.columns(), shaped.formula.names())
        every = [exact_results(shaped.formula, worths) for worths in choices]
    for step, row in enumerate(rows):
        at_end = step == len(rows) - 1
        if row[0] in ("cast", "round"):
            scale = row[3] if row[0] == "cast" else row[2]
            if not at_end and not all(has_scale(results[step], scale) for results in every):
                return step
        if row[0] in ("product", "quotient"):
            left, right = [shaped.formula.part(part) for part in row[1:]]
            if row[0] == "product" and set(left.names()) & set(right.names()):
                return step
            if row[0] == "quotient" and not may_divide(left, right, at_end):
                return step
    return None


def may_divide(left, right, at_end):
    """Whether a quotient is as [14] says."""
    if right.rows[-1][0] == "column":
        return at_end and right.rows[-1][1] not in left.names()
    if [row[0] for row in right.rows] not in (["constant"], ["constant", "negative"]):
        return False
    return at_end or is_decimal(Fraction(right.rows[0][1], 10 ** right.rows[0][2]))


def is_decimal(number):
    """Whether a number from 0 on is a power of 2 times a power of 5."""
    left = number.numerator * number.denominator
    for factor in (2, 5):
        while left and left % factor == 0:
            left //= factor
    return left == 1


def chance_plain_tree(chance, size, names, at_end=True):
    """A tree that is plain but, now and then, for a cast or a round."""
    kind = chance.random()
    if size <= 1:
        if names and kind < 0.75:
            return "column", (), (chance.choice(names),)
        return "constant", (), chance.choice([(0, 0), (3, 0), (125, 3), (8, 3), (25, 1), (10, 1), (400, 2), (7, 0)])
    if kind < 0.1 or (kind < 0.25 and at_end):
        part = chance_plain_tree(chance, size - 1, names, False)
        return chance.choice([
            ("negative", (part,), ()), ("cast", (part,), (chance.randrange(1, 4), chance.randrange(5))),
            ("round", (part,), (chance.randrange(4), chance.choice(WAYS))),
        ])
    if kind < 0.35:
        units = [(2, 0), (5, 1), (8, 2), (1, 0), (125, 3)] + ([(3, 0), (0, 0), (63, 1), (7, 2)] if at_end else [])
        divisor = "constant", (), chance.choice(units)
        if kind < 0.28:
            divisor = "negative", (divisor,), ()
        return "quotient", (chance_plain_tree(chance, max(1, size - 2), names, False), divisor), ()
    left = chance.randrange(1, max(2, size - 1))
    one, other = names, names
    word = chance.choice(["sum", "difference", "product", "product"])
    if word == "product":
        one = [name for name in names if chance.random() < 0.5]
        other = [name for name in names if name not in one]
    if at_end and kind < 0.45 and names:
        by = chance.choice(names)
        left_names = [name for name in names if name != by]
        return "quotient", (chance_plain_tree(chance, size - 2, left_names, False), ("column", (), (by,))), ()
    left_part = chance_plain_tree(chance, left, one, False)
    return word, (left_part, chance_plain_tree(chance, max(1, size - 1 - left), other, False)), ()


def all_orders(items):
    """Each way to put two and two together until one is left: a single item, or a pair of two orders."""
    if len(items) == 1:
        return [items[0]]
    orders = []
    for choice in range(1, 1 << (len(items) - 1)):
        other = [item for place, item in enumerate(items[1:]) if choice >> place & 1]
        one = [items[0]] + [item for place, item in enumerate(items[1:]) if not choice >> place & 1]
        orders.extend(itertools.product(all_orders(one), all_orders(other)))
    return orders


def all_brackets(items):
    """The same with the items in their order."""
    if len(items) == 1:
        return [items[0]]
    orders = []
    for place in range(1, len(items)):
        orders.extend(itertools.product(all_brackets(items[:place]), all_brackets(items[place:])))
    return orders


def leaves(order):
    """The items of an order, from left to right."""
    return leaves(order[0]) + leaves(order[1]) if isinstance(order, tuple) else [order]


def worked_by(order, formulas, join):
    """The Formula in which formulas are joined by an order of their indexes."""
    if not isinstance(order, tuple):
        return formulas[order]
    return join(worked_by(order[0], formulas, join), worked_by(order[1], formulas, join))


# Constants by which a formula that is linear multiplies and divides.
FACTORS = [(2, 0), (5, 1), (25, 2), (3, 0), (1, 1), (12, 0), (99, 0), (7, 1), (99, 2), (0, 0), (15, 1), (1, 0)]
DIVISORS = [(2, 0), (5, 0), (8, 0), (4, 1), (1, 1), (10, 0), (25, 2)]


def chance_linear_tree(chance, size, names):
    """A tree of about so many steps in which products and quotients have one side without columns."""
    kind = chance.random()
    if size <= 1:
        if kind < 0.8:
            return "column", (), (chance.choice(names),)
        return "constant", (), chance.choice([(0, 0), (5, 1), (15, 1), (3, 0), (125, 3), (99, 0), (5, 0), (45, 2)])
    if kind < 0.35:
        part = chance_linear_tree(chance, size - 1, names)
        if kind < 0.22:
            return "round", (part,), (chance.randrange(3), chance.choice(WAYS))
        if kind < 0.3:
            return "cast", (part,), (chance.choice([1, 2, 3, 5]), chance.randrange(3))
        return "negative", (part,), ()
    if kind < 0.65:
        part = chance_linear_tree(chance, size - 2, names)
        if kind > 0.55:
            return "quotient", (part, ("constant", (), chance.choice(DIVISORS))), ()
        by = "constant", (), chance.choice(FACTORS)
        if chance.random() < 0.2:
            by = "negative", (by,), ()
        if chance.random() < 0.1:
            by = "round", (by,), (chance.randrange(2), chance.choice(WAYS))
        return "product", ((part, by) if chance.random() < 0.5 else (by, part)), ()
    left = chance.randrange(1, max(2, size - 1))
    parts = chance_linear_tree(chance, left, names), chance_linear_tree(chance, max(1, size - 1 - left), names)
    return chance.choice(["sum", "difference"]), parts, ()


LITTLE = [("signed", 1, 1), ("signed", 1, 0), ("signed", 0, 1), ("unsigned", 0, 2), ("unsigned", 1, 1),
          ("positive", 1, 1), ("positive", 1, 0), ("unsigned", 2, 0)]


def chance_linear_pair(chance):
    """Two linear Shapeds over the same few little columns, with the same dialect."""
    columns = {name: Column(whole, scale, mark)
               for name in "ab" for mark, whole, scale in [chance.choice(LITTLE)]}
    cap = chance.choice([3, 4, 5, 6, 20])
    dialect = Dialect(cap, min(chance.randrange(3), cap), extra=chance.randrange(2), places=chance.randrange(3),
                      way=chance.choice(WAYS))
    names = chance.choice(["a", "ab", "ab"])
    return [chance_linear(chance, names, columns, dialect) for _ in range(2)]


def chance_linear(chance, names, columns, dialect):
    while True:
        tree = chance_linear_tree(chance, chance.choice([2, 3, 5, 7, 9]), names)
        try:
            shaped = Shaped(Formula(rows_of(tree)), columns, dialect)
        except ValueError:
            continue
        if is_linear(shaped):
            return shaped


def free_results(shaped, worths):
    """What each step makes of its parts and what it is rounded to, as Fractions, whether it fits or not."""
    raws, results = [], []
    for step, row in enumerate(shaped.formula.rows):
        parts = [results[part] for part in shaped.formula.parts(step)]
        if row[0] == "column":
            raw = fraction(worths[row[1]])
        elif row[0] == "constant":
            raw = Fraction(row[1], 10 ** row[2])
        elif len(parts) == 1:
            raw = -parts[0] if row[0] == "negative" else parts[0]
        else:
            one, other = parts
            raw = {"sum": lambda: one + other, "difference": lambda: one - other, "product": lambda: one * other,
                   "quotient": lambda: one / other}[row[0]]()
        scale, way = shaped.shapes[step].scale, shaped.dialect.way
        if row[0] == "round":
            scale, way = row[2], row[3]
        many = raw * 10 ** scale
        raws.append(raw)
        results.append(Fraction(divided(many.numerator, many.denominator, way), 10 ** scale))
    return raws, results


def straight_result(shaped, worths):
    """The straight result at these worths, as a Fraction."""
    found = multipliers(shaped)
    return fraction(rest(shaped)) + sum(fraction(found[name]) * fraction(worths[name]) for name in found)


def is_over(shaped, step, results):
    return abs(results[step]) >= 10 ** shaped.shapes[step].whole


def first_over_step(shaped, every):
    """The first step that is over at some of these worths, or None."""
    tables = [free_results(shaped, worths)[1] for worths in every]
    for step in range(shaped.formula.size):
        if any(is_over(shaped, step, results) for results in tables):
            return step
    return None

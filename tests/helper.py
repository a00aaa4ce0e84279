"""What several tests need: values of all kinds, checks of refusals, formulas as trees, formulas by chance."""

import unittest

from figurestay.dialects import Dialect
from figurestay.errors import BadValue, NoFigures
from figurestay.formulas import Formula, column, constant
from figurestay.shaped import Shaped
from figurestay.shapes import Column, Shape
from figurestay.worked import work
from figurestay.worths import Worth


def nested(depth):
    """A list in a tuple in a list .., so many deep."""
    value = "bottom"
    for level in range(depth):
        value = [value] if level % 2 else (value,)
    return value


def values_of_all_kinds():
    """Values of each kind that a caller may pass by mistake."""
    shaped = Shaped(column("a") + 1, {"a": Column(2, 1)}, Dialect(6, 2))
    return [
        None, True, False, -10 ** 30, -1, 0, 1, 2, 3, 7, 41, 10 ** 30,
        "", "a", "abc", "A", "a b", "abcdefghi", "signed", "positive", "floor", "halfup", "sum", "quotient",
        "1", "-0.5", "05", "-0", "\u0663", (), (1,), (1, 2), ("column", "a"), ("constant", 1, 0), [], [1], [None],
        [("column", "a")], [Worth(1)], (Worth(2, 1), Worth(3)), {}, {"a": 1}, {"a": Column(1, 0)},
        {"a": Worth(1)}, {1: 2}, {None: None}, nested(20), {"a": {"b": {"c": []}}},
        Worth(0), Worth(15, 1), Worth(-3), Shape(2, 1), Shape(0, 1), Column(2, 1), Column(0, 1, "positive"),
        Dialect(6, 2), column("a"), constant(5, 2), shaped, work(shaped, {"a": Worth(1)}), NoFigures(), BadValue(1),
    ]


def is_integer(value):
    return type(value) is int


def is_whole(value):
    return type(value) is int and value >= 0


def is_worth(value):
    return type(value) is Worth


class Case(unittest.TestCase):
    """A test case that knows how calls of figurestay are refused."""

    def refused(self, error, fields, call, *args, **named):
        """That a call raises just this error, with just these fields, as they were passed."""
        with self.assertRaises(error) as caught:
            call(*args, **named)
        self.assertIs(type(caught.exception), error)
        self.assertEqual(sorted(vars(caught.exception)), sorted(fields))
        for name, value in fields.items():
            found = getattr(caught.exception, name)
            self.assertIs(type(found), type(value))
            self.assertTrue(found is value or found == value, (found, value))

    def refuses_all_but(self, is_good, call, error=BadValue, field="value"):
        """That call(value) raises the error for each value that is not as described, with the value itself."""
        refused = 0
        for value in values_of_all_kinds():
            if is_good(value):
                continue
            with self.assertRaises(error, msg=repr(value)) as caught:
                call(value)
            self.assertIs(type(caught.exception), error, repr(value))
            self.assertIs(getattr(caught.exception, field), value)
            refused += 1
        self.assertGreater(refused, 20)


def tree_of(formula, step=None):
    """A formula as nested tuples: a word, the trees of its parts, its other entries."""
    step = len(formula.rows) - 1 if step is None else step
    row = formula.rows[step]
    many = {"column": 0, "constant": 0, "negative": 1, "cast": 1, "round": 1}.get(row[0], 2)
    parts = tuple(tree_of(formula, part) for part in row[1:1 + many])
    return row[0], parts, row[1 + many:]


def rows_of(tree):
    """The rows of the steps of a tree, in the order of working."""
    rows = []

    def put(node):
        word, parts, fields = node
        numbers = tuple(put(part) for part in parts)
        rows.append((word,) + numbers + fields)
        return len(rows) - 1

    put(tree)
    return rows


def chance_tree(chance, size, names="abc"):
    """A tree of about so many steps, drawn by a random.Random."""
    if size <= 1:
        if chance.random() < 0.6:
            return "column", (), (chance.choice(names),)
        return "constant", (), (chance.choice([0, 1, 2, 5, 8, 25, 99, 125, 1250]), chance.randrange(4))
    kind = chance.random()
    if kind < 0.25:
        part = chance_tree(chance, size - 1, names)
        if kind < 0.08:
            return "negative", (part,), ()
        if kind < 0.16:
            whole, scale = chance.choice([(0, 1), (1, 0), (2, 1), (3, 2), (4, 0)])
            return "cast", (part,), (whole, scale)
        return "round", (part,), (chance.randrange(4), chance.choice(["floor", "cut", "halfeven", "away"]))
    left = chance.randrange(1, max(2, size - 1))
    parts = chance_tree(chance, left, names), chance_tree(chance, max(1, size - 1 - left), names)
    return chance.choice(["sum", "difference", "product", "product", "quotient"]), parts, ()


def chance_formula(chance, size, names="abc"):
    return Formula(rows_of(chance_tree(chance, size, names)))

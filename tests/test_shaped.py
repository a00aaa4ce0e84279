"""[10] and [46]: shaped formulas."""

import random
import unittest

from figurestay.dialects import Dialect
from figurestay.errors import BadValue, NoColumn, TooWide, WideColumn
from figurestay.formulas import Formula, column, constant
from figurestay.shaped import Shaped
from figurestay.shapes import Column, Shape
from helper import Case, chance_formula, values_of_all_kinds

COLUMNS = {"a": Column(3, 2), "b": Column(1, 0, "unsigned"), "c": Column(0, 2, "positive")}


def figures(shapes):
    return [(shape.whole, shape.scale) for shape in shapes]


def shapes_by_the_words(formula, columns, dialect, cut):
    """The shapes of all steps as pairs, as [7] and [10] say."""
    shapes = []
    for row in formula.rows:
        word = row[0]
        if word == "column":
            shape = (columns[row[1]].shape.whole, columns[row[1]].shape.scale)
        elif word == "constant":
            integer = str(row[1] // 10 ** row[2]).lstrip("0")
            shape = (len(integer), row[2])
        elif word == "negative":
            shape = shapes[row[1]]
        elif word == "cast":
            shape = (row[2], row[3])
        elif word == "round":
            shape = (shapes[row[1]][0], min(shapes[row[1]][1], row[2]))
        else:
            (i, s), (j, t) = shapes[row[1]], shapes[row[2]]
            if word == "product":
                shape = (i + j + dialect.extra, s + t)
            elif word == "quotient":
                shape = (i + t, max(dialect.places, s + j + 1))
            else:
                shape = (max(i, j) + 1, max(s, t))
            if cut and sum(shape) > dialect.cap:
                scale = max(dialect.cap - shape[0], min(shape[1], dialect.kept))
                shape = (dialect.cap - scale, scale)
        shapes.append((1, 0) if shape == (0, 0) else shape)
    return shapes


class ShapesOfSteps(Case):

    def check(self, formula, dialect, columns=None):
        columns = COLUMNS if columns is None else columns
        shaped = Shaped(formula, columns, dialect)
        self.assertEqual(figures(shaped.shapes), shapes_by_the_words(formula, columns, dialect, True))
        self.assertEqual(figures(shaped.uncapped), shapes_by_the_words(formula, columns, dialect, False))
        self.assertIs(type(shaped.shapes), tuple)
        self.assertIs(type(shaped.uncapped), tuple)
        return figures(shaped.shapes)

    def test_chance_formulas(self):
        chance = random.Random(12)
        for _ in range(400):
            formula = chance_formula(chance, chance.randrange(1, 30))
            cap = chance.randrange(8, 20)
            dialect = Dialect(cap, chance.randrange(cap + 1), extra=chance.randrange(2), places=chance.randrange(8))
            self.check(formula, dialect)

    def test_constants(self):
        for units, scale, shape in ((1250, 2, (2, 2)), (5, 2, (0, 2)), (0, 0, (1, 0)), (0, 3, (0, 3)), (10, 1, (1, 1)),
                                    (99, 2, (0, 2)), (100, 2, (1, 2)), (7, 0, (1, 0)), (10 ** 20, 0, (21, 0))):
            self.assertEqual(self.check(constant(units, scale), Dialect(30, 0)), [shape])

    def test_just_as_wide_as_the_cap_and_one_wider(self):
        product = column("a") * column("b")
        self.assertEqual(self.check(product, Dialect(6, 0))[2], (4, 2))
        self.assertEqual(self.check(product, Dialect(5, 0))[2], (4, 1))
        self.assertEqual(self.check(product, Dialect(5, 2))[2], (3, 2))
        self.assertEqual(self.check(product, Dialect(5, 5))[2], (3, 2))
        self.assertEqual(self.check(product, Dialect(6, 0, extra=1))[2], (5, 1))
        self.assertEqual(self.check(product, Dialect(7, 0, extra=1))[2], (5, 2))
        self.assertEqual(self.check(column("a").over(column("b")), Dialect(7, 0))[2], (3, 4))
        self.assertEqual(self.check(column("a").over(column("b")), Dialect(6, 0))[2], (3, 3))
        self.assertEqual(self.check(column("a").over(column("c")), Dialect(9, 0, places=5))[2], (5, 4))

    def test_what_stands_behind_a_cut_step(self):
        formula = ((column("a") * column("a")).rounded(3, "cut") - column("c")).over(7)
        shaped = Shaped(formula, COLUMNS, Dialect(6, 1))
        self.assertEqual(figures(shaped.shapes),
                         [(3, 2), (3, 2), (5, 1), (5, 1), (0, 2), (5, 1), (1, 0), (5, 1)])
        self.assertEqual(figures(shaped.uncapped),
                         [(3, 2), (3, 2), (6, 4), (6, 3), (0, 2), (7, 3), (1, 0), (7, 5)])

    def test_rounds_without_figures(self):
        self.assertEqual(self.check(column("c").rounded(0, "cut"), Dialect(5, 0)), [(0, 2), (1, 0)])
        self.assertEqual(self.check(column("c").rounded(1, "cut"), Dialect(5, 0)), [(0, 2), (0, 1)])
        self.assertEqual(self.check(column("c").rounded(5, "cut"), Dialect(5, 0)), [(0, 2), (0, 2)])
        self.assertEqual(self.check(column("a").rounded(0, "cut"), Dialect(5, 0)), [(3, 2), (3, 0)])
        self.assertEqual(self.check((-column("c")).rounded(0, "cut").cast(0, 1), Dialect(5, 0))[2:], [(1, 0), (0, 1)])

    def test_limits(self):
        formula = constant(10 ** 99, 99)
        for _ in range(29):
            formula = formula * column("w")
        self.check(formula, Dialect(200, 50, extra=1, places=400), {"w": Column(50, 50)})


class Made(Case):

    def test_attributes(self):
        formula, dialect = column("a") + 1, Dialect(9, 2)
        shaped = Shaped(dialect=dialect, columns=COLUMNS, formula=formula)
        self.assertTrue(shaped.formula == formula and shaped.dialect == dialect)
        self.assertTrue(shaped == shaped)
        self.assertFalse(shaped == Shaped(formula, COLUMNS, dialect))

    def test_columns_are_copied(self):
        columns = dict(COLUMNS)
        shaped = Shaped(column("a"), columns, Dialect(9, 2))
        columns["a"] = Column(1, 0)
        del columns["b"]
        found = shaped.columns()
        self.assertTrue(found == COLUMNS)
        self.assertIsNot(found, shaped.columns())
        found["d"] = Column(1, 0)
        found["a"] = None
        self.assertTrue(shaped.columns() == COLUMNS)
        self.assertEqual(figures(shaped.with_formula(column("a")).shapes), [(3, 2)])

    def test_the_order_of_the_keys_has_no_meaning(self):
        columns = {name: Column(9, 1) for name in ("c", "a", "b")}
        for names in (("a", "b", "c"), ("c", "b", "a"), ("b", "c", "a")):
            told = {name: columns[name] for name in names}
            self.refused(WideColumn, {"name": "a"}, Shaped, column("b"), told, Dialect(9, 0))
            self.assertEqual(figures(Shaped(column("c"), told, Dialect(10, 0)).shapes), [(9, 1)])

    def test_with_formula(self):
        shaped = Shaped(column("a"), COLUMNS, Dialect(5, 2))
        other = shaped.with_formula(formula=column("b") - 1)
        self.assertTrue(other.formula == column("b") - 1 and other.dialect == shaped.dialect)
        self.assertTrue(other.columns() == COLUMNS and shaped.formula == column("a"))
        self.refused(NoColumn, {"name": "z"}, shaped.with_formula, column("a") + column("z"))
        self.refused(TooWide, {"step": 0}, shaped.with_formula, constant(123456) + column("z"))
        self.refuses_all_but(lambda value: isinstance(value, Formula) and value.names() in ((), ("a",)),
                             shaped.with_formula)

    def test_formulas_without_columns(self):
        self.assertEqual(figures(Shaped(constant(7) + 8, {}, Dialect(1, 0)).shapes), [(1, 0), (1, 0), (1, 0)])
        self.assertEqual(Shaped(constant(7), {}, Dialect(1, 0)).columns(), {})


class Refused(Case):

    def test_bad_values_from_left_to_right(self):
        formula, dialect = column("a"), Dialect(5, 0)
        self.refuses_all_but(lambda value: isinstance(value, Formula), lambda value: Shaped(value, None, None))
        self.refuses_all_but(lambda value: isinstance(value, dict) and value in ({}, {"a": Column(1, 0)}),
                             lambda value: Shaped(formula, value, None))
        self.refuses_all_but(lambda value: isinstance(value, Dialect), lambda value: Shaped(formula, {}, value))
        wide = {"a": Column(9, 9)}
        self.refused(BadValue, {"value": 3}, Shaped, column("z"), wide, 3)
        self.refused(BadValue, {"value": 4}, Shaped, 4, wide, 3)
        self.assertTrue(Shaped(formula, {"a": Column(1, 0)}, dialect).formula == formula)

    def test_a_dict_is_looked_at_as_a_whole(self):
        good = Column(1, 0)
        for value in values_of_all_kinds():
            if not isinstance(value, Column):
                columns = {"a": good, "b": value}
                self.refused(BadValue, {"value": columns}, Shaped, column("a"), columns, None)
        for key in (None, True, 1, "", "A", "a1", "abcdefghi", (), ("a",), (1, 2), "\u00e4"):
            columns = {"a": good, key: good}
            with self.assertRaises(BadValue) as caught:
                Shaped(column("a"), columns, Dialect(5, 0))
            self.assertIs(caught.exception.value, columns)

    def test_wide_columns_first(self):
        columns = {"d": Column(6, 0), "c": Column(3, 3), "a": Column(5, 0), "b": Column(0, 5)}
        self.refused(WideColumn, {"name": "c"}, Shaped, column("z") + 123456, columns, Dialect(5, 0))
        self.refused(WideColumn, {"name": "d"}, Shaped, column("d"), {"d": Column(6, 0)}, Dialect(5, 0))
        self.refused(WideColumn, {"name": "d"}, Shaped, constant(123456), {"d": Column(6, 0)}, Dialect(5, 0))
        self.assertEqual(figures(Shaped(column("b"), {"b": Column(0, 5)}, Dialect(5, 0)).shapes), [(0, 5)])

    def test_then_step_by_step(self):
        columns, dialect = {"a": Column(5, 0)}, Dialect(5, 0)
        self.refused(NoColumn, {"name": "z"}, Shaped, column("z") + 123456, columns, dialect)
        self.refused(NoColumn, {"name": "z"}, Shaped, column("z") + column("b"), columns, dialect)
        self.refused(TooWide, {"step": 0}, Shaped, constant(123456) + column("z"), columns, dialect)
        self.refused(TooWide, {"step": 0}, Shaped, constant(1, 6), columns, dialect)
        self.refused(TooWide, {"step": 0}, Shaped, constant(12345, 0).cast(6, 0) * 0, {}, Dialect(4, 0))
        self.refused(TooWide, {"step": 1}, Shaped, column("a").cast(6, 0) + column("z"), columns, dialect)
        self.refused(TooWide, {"step": 1}, Shaped, column("a").cast(1, 5), columns, dialect)
        self.refused(NoColumn, {"name": "z"}, Shaped, column("z").cast(9, 9), columns, dialect)
        self.assertEqual(figures(Shaped(constant(12345).cast(0, 5), columns, dialect).shapes), [(5, 0), (0, 5)])


if __name__ == "__main__":
    unittest.main()

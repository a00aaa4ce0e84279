"""[9] and [45]: formulas."""

import random
import unittest

from figurestay.errors import BadStep, BadValue, NoFigures
from figurestay.formulas import Formula, column, constant
from figurestay.shapes import Shape
from figurestay.ways import WAYS
from figurestay.worths import Worth
from helper import (Case, chance_formula, chance_tree, is_integer, is_whole, is_worth, nested, rows_of, tree_of,
                    values_of_all_kinds)

A, B = ("column", "a"), ("column", "b")


def is_formula(value):
    return isinstance(value, Formula)


def is_name(value):
    return isinstance(value, str) and 1 <= len(value) <= 8 and all("a" <= letter <= "z" for letter in value)


def is_way(value):
    return isinstance(value, str) and value in WAYS


class Rows(Case):

    def good(self, rows):
        self.assertEqual(Formula(rows).rows, tuple(rows))

    def bad(self, number, rows):
        self.refused(BadStep, {"number": number}, Formula, rows)
        self.refused(BadStep, {"number": number}, Formula, tuple(rows))

    def test_formulas_of_one_step(self):
        for row in (A, ("column", "abcdefgh"), ("constant", 0, 0), ("constant", 5, 2), ("constant", 10 ** 99, 400)):
            self.good([row])

    def test_each_word(self):
        for word in ("sum", "difference", "product", "quotient"):
            self.good([A, B, (word, 0, 1)])
            self.good([A, A, (word, 0, 1)])
        self.good([A, ("negative", 0)])
        self.good([A, ("cast", 0, 0, 1)])
        self.good([A, ("cast", 0, 3, 0)])
        for way in WAYS:
            self.good([A, ("round", 0, 0, way)])
        self.good([A, B, ("negative", 1), ("sum", 0, 2), ("round", 3, 7, "cut")])
        self.good([A, B, ("sum", 0, 1), B, A, ("product", 3, 4), ("quotient", 2, 5)])
        self.good([A, B, A, ("sum", 1, 2), ("sum", 0, 3)])

    def test_a_list_is_copied_and_stays(self):
        rows = [A, B, ("sum", 0, 1)]
        formula = Formula(rows=rows)
        rows.pop()
        rows[0] = ("column", "z")
        self.assertEqual(formula.rows, (A, B, ("sum", 0, 1)))
        self.assertEqual(rows, [("column", "z"), B])
        self.assertIs(type(formula.rows), tuple)

    def test_no_row_or_more_than_one_step_left(self):
        self.bad(0, [])
        self.bad(2, [A, B])
        self.bad(3, [A, B, ("negative", 1)])
        self.bad(4, [A, B, A, ("sum", 1, 2)])

    def test_rows_that_are_none(self):
        for row in ((), ("column",), ("column", "a", "b"), ("column", ""), ("column", "abcdefghi"), ("column", "A"),
                    ("column", "a1"), ("column", 5), ("column", None), ("column", ["a"]), ("column", "\u00e9"),
                    ("constant",), ("constant", 1), ("constant", 1, 0, 0), ("constant", -1, 0), ("constant", 1, -1),
                    ("constant", True, 0), ("constant", 1, False), ("constant", "1", 0), ("constant", 1, None),
                    ("Column", "a"), ("name", "a"), (None, "a"), ("",), (["column"], "a"), ({}, 1, 2), ((), ()),
                    (1, 2), (Worth(1), "a"), ("constant", Worth(1), 0), ("column", column("a"))):
            self.bad(0, [row])
            self.bad(1, [A, row, ("bad",)])

    def test_rows_with_parts_that_are_none(self):
        for row in (("negative",), ("negative", 1), ("negative", -1), ("negative", False), ("negative", "0"),
                    ("negative", None), ("negative", (0,)), ("negative", 0, 0), ("cast", 0), ("cast", 0, 1),
                    ("cast", 0, 0, 0), ("cast", 0, -1, 1), ("cast", 0, 1, -1), ("cast", 0, True, 1), ("cast", 0, 1, "2"),
                    ("cast", 1, 1, 1), ("cast", False, 1, 1), ("cast", 0, 1, 1, 1), ("round", 0), ("round", 0, 1),
                    ("round", 0, 1, "up"), ("round", 0, -1, "cut"), ("round", 0, None, "cut"), ("round", 0, 1, None),
                    ("round", 0, "cut", 1), ("round", 1, 1, "cut"), ("round", False, 1, "cut"), ("sum", 0),
                    ("sum", 0, 0), ("sum", 0, 1), ("sum", -1, 0), ("sum",), ("product", None, 0), ("round", 0, 1, ["cut"])):
            self.bad(1, [A, row])
            self.bad(1, [A, row, B, None])
        for row in (("sum", 1, 0), ("sum", 0, 0), ("sum", 1, 1), ("sum", 0, 1, 2), ("sum", 0, True), ("sum", False, 1),
                    ("sum", 0, 2), ("sum", -1, 1), ("negative", 0), ("cast", 0, 1, 1), ("round", 0, 1, "cut"),
                    ("difference", 1, 0), ("product", "0", "1"), ("quotient", 0, None), ("total", 0, 1)):
            self.bad(2, [A, B, row])
        self.bad(3, [A, B, ("sum", 0, 1), ("sum", 0, 1)])
        self.bad(3, [A, B, ("sum", 0, 1), ("negative", 1)])
        self.bad(4, [A, B, ("sum", 0, 1), A, ("sum", 1, 3)])
        self.bad(3, [A, B, A, ("sum", 0, 1)])

    def test_a_row_is_no_list_and_no_other_value(self):
        for row in values_of_all_kinds() + [["column", "a"], ["negative", 0], nested(20)]:
            if row not in (("column", "a"), ("constant", 1, 0)):
                self.bad(0, [row])
                self.bad(1, [A, row])

    def test_no_list_of_rows(self):
        for value in values_of_all_kinds():
            if not isinstance(value, (list, tuple)):
                self.refused(BadValue, {"value": value}, Formula, value)

    def test_chance_formulas_and_one_wrong_row(self):
        chance = random.Random(9)
        for _ in range(300):
            rows = rows_of(chance_tree(chance, chance.randrange(1, 25)))
            self.good(rows)
            at = chance.randrange(len(rows))
            self.bad(at, rows[:at] + [chance.choice([None, ("x",), list(rows[at]), ("negative", at)])] + rows[at + 1:])
            self.bad(len(rows) + 1, [A] + [self.later(row) for row in rows])
            if len(rows) > 1 and rows[-1][0] in ("sum", "difference", "product", "quotient"):
                self.bad(len(rows) - 1, rows[:-1])

    def later(self, row):
        if row[0] in ("column", "constant"):
            return row
        many = 1 if row[0] in ("negative", "cast", "round") else 2
        return row[:1] + tuple(part + 1 for part in row[1:1 + many]) + row[1 + many:]

    def test_60_steps_and_some_more(self):
        formula = column("a")
        for _ in range(40):
            formula = formula + column("b")
        self.assertEqual(formula.size, 81)
        formula = column("a")
        for _ in range(80):
            formula = -formula
        self.assertEqual(formula.rows[-1], ("negative", 79))


class Asked(Case):

    def test_size_names_parts(self):
        formula = column("b") * column("a") + column("b").rounded(1, "cut") - 3
        self.assertEqual(formula.size, 8)
        self.assertEqual(formula.names(), ("a", "b"))
        self.assertEqual([formula.parts(step) for step in range(8)],
                         [(), (), (0, 1), (), (3,), (2, 4), (), (5, 6)])
        self.assertEqual((constant(5).names(), constant(5).size, constant(5).parts(step=0)), ((), 1, ()))
        self.assertIs(type(formula.names()), tuple)
        self.assertEqual((column("z") + column("ab") + column("b")).names(), ("ab", "b", "z"))

    def test_part_formulas_and_replaced_of_chance_formulas(self):
        chance = random.Random(4)
        for _ in range(150):
            formula, other = [chance_formula(chance, chance.randrange(1, 20)) for _ in range(2)]
            rows = formula.rows
            for step in range(formula.size):
                tree = tree_of(formula, step)
                self.assertEqual(tree_of(formula.part(step)), tree)
                self.assertTrue(formula.replaced(step, formula.part(step)) == formula)
                wanted = Formula(rows_of(self.swapped(formula, formula.size - 1, step, tree_of(other))))
                self.assertTrue(formula.replaced(step, other) == wanted)
            self.assertEqual(formula.rows, rows)
            self.assertTrue(formula.part(formula.size - 1) == formula)
            self.assertTrue(formula.replaced(formula.size - 1, other) == other)

    def swapped(self, formula, step, told, tree):
        """The tree of a step in which the tree of the told step is another one."""
        if step == told:
            return tree
        word, _, fields = tree_of(formula, step)
        parts = formula.parts(step)
        return word, tuple(self.swapped(formula, part, told, tree) for part in parts), fields

    def test_replaced_takes_names(self):
        formula = column("a") + column("b")
        self.assertTrue(formula.replaced(other=constant(1), step=0) == 1 + column("b"))
        self.assertTrue(formula.part(step=1) == column("b"))

    def test_no_number_of_a_step(self):
        formula = column("a") + column("b")
        for call in (formula.parts, formula.part, lambda value: formula.replaced(value, column("c")),
                     lambda value: formula.replaced(value, None)):
            self.refuses_all_but(lambda value: is_whole(value) and value < 3, call, BadStep, "number")
            self.refused(BadStep, {"number": 3}, call, 3)
            self.refused(BadStep, {"number": -1}, call, -1)
            self.refused(BadStep, {"number": True}, call, True)

    def test_replaced_by_no_formula(self):
        formula = column("a") + column("b")
        self.refuses_all_but(is_formula, lambda value: formula.replaced(1, value))

    def test_equal_by_value(self):
        self.assertTrue(column("a") + 1 == Formula([A, ("constant", 1, 0), ("sum", 0, 1)]))
        self.assertTrue(column("a") + 1 != 1 + column("a"))
        self.assertTrue(constant(10, 1) != constant(1))
        for value in values_of_all_kinds():
            if not is_formula(value):
                self.assertFalse(column("a") == value)


class Signs(Case):

    def test_between_formulas(self):
        one, other = column("a") + column("b"), -column("c")
        for word, formula in (("sum", one + other), ("difference", one - other), ("product", one * other),
                              ("quotient", one.over(other))):
            self.assertEqual(formula.rows, (A, B, ("sum", 0, 1), ("column", "c"), ("negative", 3), (word, 2, 4)))
        self.assertEqual((-one).rows, (A, B, ("sum", 0, 1), ("negative", 2)))
        self.assertEqual((column("a") + column("a")).rows, (A, A, ("sum", 0, 1)))
        self.assertEqual((one.size, other.size), (3, 2))

    def test_with_integers_on_either_side(self):
        a = column("a")
        for word, behind, ahead in (("sum", a + 7, 7 + a), ("difference", a - 7, 7 - a), ("product", a * 7, 7 * a)):
            self.assertEqual(behind.rows, (A, ("constant", 7, 0), (word, 0, 1)))
            self.assertEqual(ahead.rows, (("constant", 7, 0), A, (word, 0, 1)))
        for word, behind, ahead in (("sum", a + -7, -7 + a), ("difference", a - -7, -7 - a), ("product", a * -7, -7 * a)):
            self.assertEqual(behind.rows, (A, ("constant", 7, 0), ("negative", 1), (word, 0, 2)))
            self.assertEqual(ahead.rows, (("constant", 7, 0), ("negative", 0), A, (word, 1, 2)))
        self.assertEqual((a + 0).rows, (A, ("constant", 0, 0), ("sum", 0, 1)))
        self.assertEqual(a.over(-20).rows, (A, ("constant", 20, 0), ("negative", 1), ("quotient", 0, 2)))

    def test_with_worths_behind(self):
        a = column("a")
        for word, formula in (("sum", a + Worth(150, 2)), ("difference", a - Worth(150, 2)),
                              ("product", a * Worth(150, 2)), ("quotient", a.over(Worth(150, 2)))):
            self.assertEqual(formula.rows, (A, ("constant", 15, 1), (word, 0, 1)))
        for word, formula in (("sum", a + Worth(-5, 2)), ("difference", a - Worth(-5, 2)),
                              ("product", a * Worth(-5, 2)), ("quotient", a.over(Worth(-5, 2)))):
            self.assertEqual(formula.rows, (A, ("constant", 5, 2), ("negative", 1), (word, 0, 2)))
        self.assertEqual((a * Worth(0, 3)).rows, (A, ("constant", 0, 0), ("product", 0, 1)))

    def test_a_worth_ahead_is_a_refusal_of_the_worth(self):
        formula = column("a")
        for call in (lambda: Worth(1) + formula, lambda: Worth(1) - formula, lambda: Worth(1) * formula):
            with self.assertRaises(BadValue) as caught:
                call()
            self.assertIs(caught.exception.value, formula)

    def test_refusals_on_either_side(self):
        a = column("a")
        for call in (lambda value: a + value, lambda value: a - value, lambda value: a * value, a.over):
            self.refuses_all_but(lambda value: is_formula(value) or is_integer(value) or is_worth(value), call)

    def test_refusals_ahead(self):
        a = column("a")
        for call in (lambda value: value + a, lambda value: value - a, lambda value: value * a):
            # A worth ahead refuses the formula, see above.
            self.refuses_all_but(lambda value: is_formula(value) or is_integer(value) or is_worth(value), call)

    def test_over_takes_its_name(self):
        self.assertTrue(column("a").over(other=2) == column("a").over(constant(2)))


class Ended(Case):

    def test_cast(self):
        formula = (column("a") + 1).cast(0, 2)
        self.assertEqual(formula.rows, (A, ("constant", 1, 0), ("sum", 0, 1), ("cast", 2, 0, 2)))
        self.assertEqual(column("a").cast(scale=0, whole=9).rows, (A, ("cast", 0, 9, 0)))
        self.refused(NoFigures, {}, column("a").cast, 0, 0)
        self.refuses_all_but(is_whole, lambda value: column("a").cast(value, 0))
        self.refuses_all_but(is_whole, lambda value: column("a").cast(value, None))
        self.refuses_all_but(is_whole, lambda value: column("a").cast(0, value))

    def test_rounded(self):
        for way in WAYS:
            self.assertEqual(column("a").rounded(3, way).rows, (A, ("round", 0, 3, way)))
        self.assertEqual(column("a").rounded(way="cut", scale=0).rows, (A, ("round", 0, 0, "cut")))
        self.refuses_all_but(is_whole, lambda value: column("a").rounded(value, "bad"))
        self.refuses_all_but(is_way, lambda value: column("a").rounded(0, value))

    def test_column(self):
        self.assertEqual(column("a").rows, (A,))
        self.assertEqual(column(name="abcdefgh").rows, (("column", "abcdefgh"),))
        self.assertEqual((column("cast").rows, column("round").rows), ((("column", "cast"),), (("column", "round"),)))
        self.refuses_all_but(is_name, column)
        for value in ("", "abcdefghi", "a1", "A", "a_b", "a ", "\u00e4", "\u0430"):
            self.refused(BadValue, {"value": value}, column, value)

    def test_constant(self):
        self.assertEqual(constant(5).rows, (("constant", 5, 0),))
        self.assertEqual(constant(0).rows, (("constant", 0, 0),))
        self.assertEqual(constant(scale=2, units=10).rows, (("constant", 10, 2),))
        self.refuses_all_but(is_whole, constant)
        self.refuses_all_but(is_whole, lambda value: constant(value, -1))
        self.refuses_all_but(is_whole, lambda value: constant(1, value))
        self.refused(BadValue, {"value": -1}, constant, -1)
        self.refused(BadValue, {"value": Shape}, constant, 1, Shape)


if __name__ == "__main__":
    unittest.main()

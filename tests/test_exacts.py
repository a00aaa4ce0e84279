"""[14], [15], [16] and [49]: plain formulas and their exact results, held against all worths of small columns."""

import random
import unittest
from fractions import Fraction

from figurestay.dialects import Dialect
from figurestay.errors import BadStep, BadValue, ColumnsDiffer, Divides, NotPlain, TooWide
from figurestay.exacts import exact_range, finer, is_plain, true_shape, unlike
from figurestay.formulas import Formula, column, constant
from figurestay.shaped import Shaped
from figurestay.shapes import Column, Shape, least_shape
from figurestay.worths import Worth
from helper import (
    Case, all_worths, chance_plain_tree, exact_results, first_not_plain, fraction, has_scale, is_whole, rows_of,
    values_of_all_kinds
)

COLUMNS = {"a": Column(1, 0), "b": Column(0, 1, "unsigned"), "c": Column(1, 0, "positive"), "d": Column(0, 2, "positive")}
A, B, C, D = [column(name) for name in "abcd"]


def is_shaped(value):
    return isinstance(value, Shaped)


def chance_shaped(chance, size, columns=None):
    """A Shaped that is mostly plain, with at most two or three columns."""
    columns = COLUMNS if columns is None else columns
    while True:
        names = sorted(chance.sample(sorted(columns), chance.choice([0, 1, 2, 2, 2])))
        formula = Formula(rows_of(chance_plain_tree(chance, chance.randrange(1, size), names)))
        cap = chance.randrange(4, 16)
        try:
            return Shaped(formula, columns, Dialect(cap, chance.randrange(cap + 1)))
        except TooWide:
            continue


class Exacts(Case):

    def check_step(self, shaped, step, every):
        """One step of a plain formula against its exact results at all worths, pairs (worths, results)."""
        found = {results[step] for _, results in every}
        low, high = exact_range(shaped, step)
        columns = shaped.columns()
        for (worth, worths), wanted in ((low, min(found)), (high, max(found))):
            self.assertEqual(fraction(worth), wanted)
            self.assertEqual(exact_results(shaped.formula, worths)[step], wanted)
            self.assertEqual(sorted(worths), sorted(columns))
            self.assertTrue(all(worths[name] in (columns[name].lowest(), columns[name].highest()) for name in columns))
        scale = next(scale for scale in range(99) if all(has_scale(number, scale) for number in found))
        wanted = least_shape([Worth(int(number * 10 ** scale), scale) for number in found])
        self.assertTrue(true_shape(shaped, step) == wanted, shaped.formula.rows)
        for told in (0, 1, scale - 1, scale, scale + 1):
            if told >= 0:
                self.check_finer(shaped, step, told, told >= scale)

    def check_finer(self, shaped, step, scale, is_enough):
        worths = finer(shaped, step, scale)
        if is_enough:
            self.assertIsNone(worths)
            return
        columns = shaped.columns()
        self.assertEqual(sorted(worths), sorted(columns))
        self.assertTrue(all(worths[name] in columns[name].small() for name in columns))
        self.assertFalse(has_scale(exact_results(shaped.formula, worths)[step], scale))

    def test_chance_formulas(self):
        chance, seen = random.Random(49), {True: 0, False: 0}
        for _ in range(400):
            shaped = chance_shaped(chance, 14)
            wrong = first_not_plain(shaped)
            self.assertIs(is_plain(shaped), wrong is None)
            seen[wrong is None] += 1
            every = [(worths, exact_results(shaped.formula, worths))
                     for worths in all_worths(COLUMNS, shaped.formula.names())]
            for step in range(shaped.formula.size):
                self.check_asked(shaped, step, every, wrong)
        self.assertGreater(min(seen.values()), 10)

    def check_asked(self, shaped, step, every, wrong):
        row = shaped.formula.rows[step]
        if wrong is not None and wrong <= step:
            error, fields = NotPlain, {"step": wrong}
        elif row[0] == "quotient" and not self.is_worth_divisor(shaped.formula.part(row[2])):
            error, fields = Divides, {"step": step}
        else:
            self.check_step(shaped, step, every)
            return
        for call in (exact_range, true_shape):
            self.refused(error, fields, call, shaped, step)
        self.refused(error, fields, finer, shaped, step, 2)

    def is_worth_divisor(self, formula):
        """Whether 1 over a constant is a decimal number; a column is no constant."""
        row = formula.rows[0]
        if row[0] == "column" or row[1] == 0:
            return False
        return any(has_scale(Fraction(10 ** row[2], row[1]), scale) for scale in range(20))

    def test_columns_of_each_mark(self):
        for mark, low in (("signed", "-0.99"), ("unsigned", "0"), ("positive", "0.01")):
            columns = {"a": Column(0, 2, mark), "b": Column(2, 0, mark), "z": Column(3, 0, mark)}
            shaped = Shaped(A - B * C, {**columns, "c": Column(1, 0)}, Dialect(20, 0))
            self.assertEqual([str(end[0]) for end in exact_range(shaped, 0)], [low, "0.99"])
            self.assertTrue(true_shape(shaped, 0) == Shape(0, 2) and true_shape(shaped, 1) == Shape(2, 0))
            self.assertTrue(true_shape(shaped, 4) == Shape(3, 2))
            worths = finer(shaped, 0, 1)
            self.assertIn(worths["a"], columns["a"].small())
            self.assertEqual(sorted(worths), ["a", "b", "c", "z"])
            self.assertIn(worths["z"], columns["z"].small())
            self.assertIn(exact_range(shaped, 4)[0][1]["z"], (columns["z"].lowest(), columns["z"].highest()))

    def test_scales_that_are_not_the_sum(self):
        shaped = Shaped(constant(125, 3) * constant(8, 3), {}, Dialect(20, 0))
        self.assertTrue(true_shape(shaped, 2) == Shape(0, 3))
        shaped = Shaped(A * constant(125, 3) * 8, COLUMNS, Dialect(20, 0))
        self.assertTrue(true_shape(shaped, 2) == Shape(1, 3) and true_shape(shaped, 4) == Shape(1, 0))
        shaped = Shaped(constant(1250, 2) + 0, COLUMNS, Dialect(20, 0))
        self.assertTrue(true_shape(shaped, 0) == Shape(2, 1))
        shaped = Shaped(A - A, COLUMNS, Dialect(20, 0))
        self.assertTrue(true_shape(shaped, 2) == Shape(1, 0))
        self.assertIsNone(finer(shaped, 2, 0))

    def test_does_not_depend_on_the_dialect(self):
        for dialect in (Dialect(6, 0), Dialect(9, 4, extra=1, way="cut"), Dialect(6, 6, places=3)):
            shaped = Shaped(B * D * A + D, COLUMNS, dialect)
            self.assertTrue(true_shape(shaped, 4) == Shape(1, 3))
            self.assertTrue(true_shape(shaped, 6) == Shape(1, 3))

    def test_what_is_plain(self):
        third = constant(3)
        plain = [A * B - A * C + 3 * A, constant(125, 3) * A * B, A.over(3), A.over(0), A.over(-third), A.over(B),
                 A.over(2) + 1, A.over(-constant(25, 2)) * B, A.cast(1, 0) + 1, (A * B).cast(1, 0),
                 (A * B).rounded(0, "cut"), (A * B).cast(0, 1) + 1, B.rounded(1, "floor") + 1, A.over(constant(640, 3)) + A,
                 (A - A).rounded(0, "cut") * B, constant(0) * A - A, A.over(1) * B]
        for formula in plain:
            self.assertIs(is_plain(Shaped(formula, COLUMNS, Dialect(30, 0))), True, formula.rows)
        wrong = [(A * A, 2), ((A + B) * (A - B), 6), (A.over(3) + 1, 2), (A.over(0) + 1, 2), (A.over(A), 2),
                 (A.over(-A), 3), (A.over(B + 1), 4), (A.over(-(-third)), 4), (A.over(B) + 1, 2), ((A + B).over(B), 4),
                 (B.cast(1, 0) + 1, 1), (-(A * B).rounded(0, "cut"), 3), (A.over(constant(2) * 2), 4),
                 (A.over(3).rounded(2, "cut"), 2), (-A.over(B), 2), (A.over(-B), 3), (A.over(constant(2).cast(1, 0)), 3),
                 (B.rounded(0, "cut") * (A * A), 1), (A.over(2).cast(1, 0) + B, 3), ((A + 1) * (B * A) * A, 6)]
        for formula, step in wrong:
            shaped = Shaped(formula, COLUMNS, Dialect(30, 0))
            self.assertIs(is_plain(shaped), False, formula.rows)
            self.refused(NotPlain, {"step": step}, exact_range, shaped, formula.size - 1)
            self.assertEqual(first_not_plain(shaped), step)

    def test_steps_up_to_the_one_asked(self):
        shaped = Shaped((A + B) - A * A, COLUMNS, Dialect(20, 0))
        self.assertEqual([str(end[0]) for end in exact_range(shaped, 2)], ["-9", "9.9"])
        self.refused(NotPlain, {"step": 5}, true_shape, shaped, 5)
        self.refused(NotPlain, {"step": 5}, finer, shaped, 6, 0)
        shaped = Shaped(A * A + (B + 1), COLUMNS, Dialect(20, 0))
        self.refused(NotPlain, {"step": 2}, exact_range, shaped, 5)
        self.assertEqual([str(end[0]) for end in exact_range(Shaped(A.over(3), COLUMNS, Dialect(20, 0)), 0)], ["-9", "9"])

    def test_unlike_by_chance(self):
        chance, seen = random.Random(15), {True: 0, False: 0}
        while sum(seen.values()) < 400:
            one, other = [chance_shaped(chance, 7) for _ in range(2)]
            last = [shaped.formula.rows[-1][0] for shaped in (one, other)]
            if not is_plain(one) or not is_plain(other) or "quotient" in last:
                continue
            if chance.random() < 0.5:
                other = one.with_formula(self.rewritten(one.formula, chance))
            if not is_plain(other):
                continue
            seen[self.check_unlike(one, other)] += 1
        self.assertGreater(min(seen.values()), 100)

    def rewritten(self, formula, chance):
        return chance.choice([formula + 0, formula * 1, -(-formula), 0 + formula, formula * 2 - formula,
                              (formula - 1) + (D - D) + 1, (formula + C).over(2) * 2 - C])

    def check_unlike(self, one, other):
        worths = unlike(one, other)
        names = sorted(set(one.formula.names()) | set(other.formula.names()))
        self.assertEqual(unlike(other, one) is None, worths is None)
        if worths is None:
            for told in all_worths(COLUMNS, names)[::7]:
                self.assertEqual(exact_results(one.formula, told)[-1], exact_results(other.formula, told)[-1])
            return False
        self.assertEqual(sorted(worths), sorted(COLUMNS))
        self.assertTrue(all(worths[name] in COLUMNS[name].small() for name in COLUMNS))
        self.assertNotEqual(exact_results(one.formula, worths)[-1], exact_results(other.formula, worths)[-1])
        return True

    def test_unlike_in_columns_of_their_own(self):
        for one, other in ((A - A + C, B - B + C), (A * 0, B * 0), (A - A + B, C - C + B), (constant(0), A - A)):
            shaped = Shaped(one, COLUMNS, Dialect(20, 0))
            self.assertIsNone(unlike(shaped, shaped.with_formula(other)))
            self.assertTrue(self.check_unlike(shaped, shaped.with_formula(other + 1)))
            self.assertTrue(self.check_unlike(shaped, shaped.with_formula(other + D)))
        self.assertTrue(self.check_unlike(Shaped(A * B, COLUMNS, Dialect(9, 0)), Shaped(A * D, COLUMNS, Dialect(8, 3))))
        # The last step may round: the exact results are what counts.
        cast = Shaped((A * B).cast(1, 0), COLUMNS, Dialect(9, 0))
        self.assertIsNone(unlike(cast, cast.with_formula((B * A).rounded(0, "cut"))))

    def test_at_the_limits(self):
        names = "abcdefgh"
        columns = {name: Column(60, 40, mark) for name, mark in
                   zip(names, ["signed", "unsigned", "positive", "signed"] * 2)}
        formula, other = column("a"), column("h")
        for name in names[1:]:
            formula = formula * column(name)
        for name in reversed(names[:7]):
            other = column(name) * other
        formula = formula + 3 * column("a") - column("b") * column("c") + constant(10 ** 100 - 1, 100)
        shaped = Shaped(formula - formula.part(14) * constant(125, 3) * 8, columns, Dialect(200, 50))
        self.assertEqual(shaped.formula.size, 45)
        low, high = [end[0] for end in exact_range(shaped, 14)]
        self.assertTrue(abs(low) == high and true_shape(shaped, 14) == Shape(480, 320))
        last = shaped.formula.size - 1
        self.assertTrue(true_shape(shaped, last) == Shape(121, 100))
        self.assertIsNone(finer(shaped, last, 100))
        self.assertEqual(sorted(finer(shaped, last, 99)), list(names))
        self.assertIsNone(unlike(shaped.with_formula(shaped.formula.part(14)), shaped.with_formula(other)))
        self.assertIsNotNone(unlike(shaped, shaped.with_formula(other)))
        many = {name + told: Column(9, 2) for name in names for told in "xy"}
        sums = [Formula([("column", "ax")]), Formula([("column", "ay")])]
        for name in names[1:]:
            sums = [sums[0] * column(name + "x"), sums[1] * column(name + "y")]
        self.assertIsNotNone(unlike(*[Shaped(one, many, Dialect(20, 0)) for one in sums]))
        self.assertIsNone(unlike(*[Shaped(one * 0, many, Dialect(20, 0)) for one in sums]))

    def test_nothing_is_changed(self):
        columns = dict(COLUMNS)
        shaped = Shaped(A * B, columns, Dialect(20, 0))
        low, _ = exact_range(shaped, 2)
        low[1]["a"] = None
        self.assertIsNotNone(exact_range(shaped, 2)[0][1]["a"])
        self.assertEqual(sorted(shaped.columns()), sorted(COLUMNS))
        self.assertTrue(finer(scale=0, step=2, shaped=shaped) is not None)
        self.assertTrue(exact_range(step=2, shaped=shaped) and true_shape(step=0, shaped=shaped))

    def test_refused_values(self):
        shaped = Shaped(A * A + 1, COLUMNS, Dialect(20, 0))
        self.refuses_all_but(is_shaped, is_plain)
        self.refuses_all_but(is_shaped, lambda value: unlike(value, None))
        self.refuses_all_but(is_shaped, lambda value: unlike(shaped, value))
        for call in (exact_range, true_shape, lambda told, step: finer(told, step, None)):
            self.refuses_all_but(is_shaped, lambda value: call(value, None))
            self.refuses_all_but(lambda value: is_whole(value) and value < 5, lambda value: call(shaped, value),
                                 BadStep, "number")
        self.refuses_all_but(is_whole, lambda value: finer(shaped, 2, value))
        for value in values_of_all_kinds():
            if not is_shaped(value):
                self.refused(BadValue, {"value": value}, finer, value, value, value)

    def test_refused_in_order(self):
        shaped = Shaped(A * A + B, COLUMNS, Dialect(20, 0))
        self.refused(BadStep, {"number": 5}, finer, shaped, 5, -1)
        self.refused(BadValue, {"value": -1}, finer, shaped, 4, -1)
        self.refused(NotPlain, {"step": 2}, finer, shaped, 4, 1)
        for name, told in (("b", Column(1, 1, "unsigned")), ("e", Column(1, 0)), ("a", Column(1, 0, "unsigned"))):
            other = Shaped(B.over(3), {**COLUMNS, name: told}, Dialect(20, 0))
            self.refused(ColumnsDiffer, {"name": name}, unlike, shaped, other)
            self.refused(ColumnsDiffer, {"name": name}, unlike, other, shaped)
        both = Shaped(B, {"b": Column(2, 0), "z": Column(1, 0)}, Dialect(9, 0))
        self.refused(ColumnsDiffer, {"name": "a"}, unlike, shaped, both)
        third, by_column = shaped.with_formula(A.over(3)), shaped.with_formula(A * B - B.over(C) * 0)
        self.refused(NotPlain, {"step": 5}, unlike, third, by_column)
        self.refused(NotPlain, {"step": 2}, unlike, shaped, by_column)
        self.refused(NotPlain, {"step": 5}, unlike, by_column, shaped)
        self.refused(Divides, {"step": 2}, unlike, third, shaped.with_formula((A + 1).over(0)))
        self.refused(Divides, {"step": 4}, unlike, shaped.with_formula(A + B), shaped.with_formula((A + 1).over(B)))
        self.refused(Divides, {"step": 2}, exact_range, third, 2)


if __name__ == "__main__":
    unittest.main()

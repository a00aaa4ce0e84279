"""[22], [23] and [55]: linear formulas, held against working at worths where nothing that has a column rounds."""

import random
import unittest
from fractions import Fraction

from figurestay.dialects import Dialect
from figurestay.errors import NotLinear, TooWide
from figurestay.formulas import Formula, column, constant
from figurestay.linear import is_linear, multipliers, need_linear, rest
from figurestay.shaped import Shaped
from figurestay.shapes import Column
from figurestay.ways import WAYS
from figurestay.worths import Worth
from helper import Case, chance_tree, fraction, is_decimal, rows_of
from test_ways import by_the_words

COLUMNS = {"a": Column(2, 1), "b": Column(2, 0), "c": Column(0, 3, "positive"), "z": Column(1, 0)}
A, B, C = [column(name) for name in "abc"]


def rounded_to(number, scale, way):
    return Fraction(by_the_words(number * 10 ** scale, way), 10 ** scale)


def by_the_document(shaped):
    """Of each step a dict of multipliers and the rest, Fractions, up to the first that is not linear: its number."""
    steps = []
    for step, row in enumerate(shaped.formula.rows):
        word, parts = row[0], [steps[part] for part in shaped.formula.parts(step)]
        stands = bool(shaped.formula.part(step).names())
        one, other = (parts + [None, None])[:2]
        if word == "column":
            found = {row[1]: Fraction(1)}, Fraction(0)
        elif word == "constant":
            found = {}, Fraction(row[1], 10 ** row[2])
        elif word in ("sum", "difference"):
            sign = 1 if word == "sum" else -1
            names = set(one[0]) | set(other[0])
            found = {name: one[0].get(name, 0) + sign * other[0].get(name, 0) for name in names}, one[1] + sign * other[1]
        elif word == "product":
            if one[0] and other[0]:
                return steps, step
            one, other = (other, one) if other[0] else (one, other)
            found = {name: one[0][name] * other[1] for name in one[0]}, one[1] * other[1]
        elif word == "quotient":
            good = not other[0] and other[1] != 0 and (not stands or is_decimal(abs(other[1])))
            if not good:
                return steps, step
            found = {name: one[0][name] / other[1] for name in one[0]}, one[1] / other[1]
        else:
            sign = -1 if word == "negative" else 1
            found = {name: one[0][name] * sign for name in one[0]}, one[1] * sign
        if not stands:
            scale, way = (row[2], row[3]) if word == "round" else (shaped.shapes[step].scale, shaped.dialect.way)
            found = {}, rounded_to(found[1], scale, way)
        steps.append(found)
    return steps, None


class Linear(Case):

    def check(self, shaped):
        steps, wrong = by_the_document(shaped)
        self.assertIs(is_linear(shaped), wrong is None)
        if wrong is not None:
            for call in (need_linear, multipliers, rest):
                self.refused(NotLinear, {"step": wrong}, call, shaped)
            return False
        self.assertIsNone(need_linear(shaped))
        found = multipliers(shaped)
        self.assertEqual(sorted(found), list(shaped.formula.names()))
        self.assertEqual({name: fraction(found[name]) for name in found}, steps[-1][0], shaped.formula.rows)
        self.assertEqual(fraction(rest(shaped)), steps[-1][1])
        self.assertTrue(all(isinstance(told, Worth) for told in [*found.values(), rest(shaped)]))
        return True

    def test_chance_formulas(self):
        chance, seen = random.Random(22), {True: 0, False: 0}
        while seen[True] < 700:
            tree = chance_tree(chance, chance.randrange(1, 12), chance.choice(["a", "abc"]))
            cap = chance.randrange(4, 12)
            dialect = Dialect(cap, chance.randrange(cap + 1), places=chance.randrange(4), way=chance.choice(WAYS))
            try:
                shaped = Shaped(Formula(rows_of(self.lessened(tree, chance))), COLUMNS, dialect)
            except TooWide:
                continue
            seen[self.check(shaped)] += 1
        self.assertGreater(seen[False], 100)

    def lessened(self, tree, chance):
        """The tree with a constant in the place of some parts of products and quotients."""
        word, parts, fields = tree
        parts = [self.lessened(part, chance) for part in parts]
        if word in ("product", "quotient") and chance.random() < 0.7:
            constant_part = "constant", (), (chance.choice([0, 1, 2, 8, 25, 125, 3]), chance.randrange(3))
            parts[1 if word == "quotient" else chance.randrange(2)] = constant_part
        return word, tuple(parts), fields

    def test_what_is_linear(self):
        third = constant(1).over(3)
        good = [A, constant(7), A + A - A, -A, A.cast(1, 0), A.rounded(0, "cut"), A * 3, 3 * A, A * (constant(3) * 4),
                A * third, A.over(8), A.over(-constant(25, 2)), A.over(constant(2) * 5), (A + B).over(constant(1)),
                constant(7).over(3), constant(0).over(3) * A, A * (third.over(7)), A.over(constant(4).over(2)), A * 0,
                A.over(constant(96, 1).cast(1, 0)), A - B.over(640) * third]
        for formula in good:
            self.assertTrue(self.check(Shaped(formula, COLUMNS, Dialect(20, 3, places=2))), formula.rows)
        wrong = [(A * B, 2), (A * A, 2), (A.over(B), 2), (A.over(3), 2), (A.over(0), 2), (A.over(third), 4),
                 (constant(1).over(0), 2), (constant(1).over(constant(3) - 3), 4), (constant(5).over(A), 2),
                 (A.over(constant(4, 1).cast(1, 0)), 3), ((A - A) * A, 4), (A + B * (A * C), 4), (A.over(0) * (A * A), 2),
                 (constant(0).over(0), 2), (A.over(constant(30, 1)), 2), (A * B.over(2).over(A - A), 7)]
        for formula, step in wrong:
            shaped = Shaped(formula, COLUMNS, Dialect(20, 3, places=2))
            self.assertFalse(self.check(shaped), formula.rows)
            self.refused(NotLinear, {"step": step}, need_linear, shaped)

    def test_the_example(self):
        shaped = Shaped(2 * A - B * constant(25, 2) + 7, COLUMNS, Dialect(20, 0))
        found = multipliers(shaped)
        self.assertEqual(([(name, str(found[name])) for name in sorted(found)], str(rest(shaped))),
                         ([("a", "2"), ("b", "-0.25")], "7"))

    def test_steps_with_columns_do_not_round(self):
        shaped = Shaped((A * constant(125, 3) - 1).cast(1, 0).rounded(0, "away").over(8), COLUMNS, Dialect(5, 0))
        self.assertEqual((str(multipliers(shaped)["a"]), str(rest(shaped))), ("0.015625", "-0.125"))

    def test_steps_without_columns_keep_their_rounded_results(self):
        half = (constant(1).over(3) * 10).cast(2, 0)
        shaped = Shaped(A * half + half, COLUMNS, Dialect(20, 0, way="ceiling", places=1))
        self.assertEqual((str(multipliers(shaped)["a"]), str(rest(shaped))), ("4", "4"))
        shaped = Shaped(A * constant(25, 1).rounded(0, "halfeven"), COLUMNS, Dialect(20, 0, way="away"))
        self.assertEqual(str(multipliers(shaped)["a"]), "2")
        shaped = Shaped(A + constant(15, 1) * constant(15, 1), COLUMNS, Dialect(3, 0, way="floor"))
        self.assertEqual(str(rest(shaped)), "2.2")

    def test_results_that_do_not_fit(self):
        """A step without columns goes by its one result, even if it is over."""
        great = constant(99) * constant(99)
        shaped = Shaped(A * great - great, COLUMNS, Dialect(3, 0))
        self.assertEqual((str(multipliers(shaped)["a"]), str(rest(shaped))), ("9801", "-9801"))
        self.assertTrue(self.check(Shaped(A + constant(99).cast(1, 0), COLUMNS, Dialect(3, 0))))
        self.assertTrue(self.check(Shaped(A.over(constant(64).cast(1, 0) * 0 + constant(32).cast(1, 0)), COLUMNS, Dialect(3, 0))))

    def test_columns_with_the_multiplier_zero(self):
        shaped = Shaped(A - A + 0 * B, COLUMNS, Dialect(20, 0))
        found = multipliers(shaped)
        self.assertEqual(([(name, str(found[name])) for name in sorted(found)], str(rest(shaped))),
                         ([("a", "0"), ("b", "0")], "0"))
        self.assertEqual(multipliers(Shaped(constant(5), COLUMNS, Dialect(20, 0))), {})
        # A column stands in this step, though its multiplier is 0.
        self.refused(NotLinear, {"step": 4}, rest, Shaped((A - A) * B, COLUMNS, Dialect(20, 0)))

    def test_sixty_steps(self):
        formula = column("a")
        for step in range(14):
            formula = -(formula * constant(5, 1) + column("b"))
        shaped = Shaped(formula.over(constant(10 ** 99)), {"a": Column(50, 50), "b": Column(1, 1)}, Dialect(200, 0))
        self.assertEqual(shaped.formula.size, 73)
        self.assertTrue(multipliers(shaped)["a"] == Worth(5 ** 14, 14 + 99))
        self.assertTrue(self.check(shaped))

    def test_refused(self):
        for call in (is_linear, need_linear, multipliers, rest):
            self.refuses_all_but(lambda value: isinstance(value, Shaped), call)
        found = multipliers(shaped=Shaped(A + B, COLUMNS, Dialect(20, 0)))
        found["a"] = None
        self.assertTrue(multipliers(Shaped(A + B, COLUMNS, Dialect(20, 0)))["a"] == Worth(1))


if __name__ == "__main__":
    unittest.main()

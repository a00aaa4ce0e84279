"""[14], [16], [21] and [53]: casts to true shapes, held against all sets of steps of small formulas."""

import itertools
import random
import unittest

from figurestay.casts import cast_at, fewest_casts
from figurestay.dialects import Dialect
from figurestay.errors import BadStep, NotPlain, NotSteady, TooWide
from figurestay.events import is_safe
from figurestay.exacts import is_plain, true_shape, unlike
from figurestay.formulas import Formula, column, constant
from figurestay.shaped import Shaped
from figurestay.shapes import Column
from helper import Case, chance_plain_tree, is_whole, rows_of, tree_of, values_of_all_kinds

COLUMNS = {"a": Column(1, 0), "b": Column(0, 2, "unsigned"), "c": Column(2, 0, "positive"), "d": Column(1, 1)}
A, B, C, D = [column(name) for name in "abcd"]


def casts_by_the_words(shaped, steps):
    """The rows with a cast behind each of the steps, made of the trees of the steps."""
    trees = []
    for step, (word, _, fields) in enumerate(tree_of(shaped.formula, step) for step in range(shaped.formula.size)):
        tree = word, tuple(trees[part] for part in shaped.formula.parts(step)), fields
        if step in steps:
            shape = true_shape(shaped, step)
            tree = "cast", (tree,), (shape.whole, shape.scale)
        trees.append(tree)
    return tuple(rows_of(trees[-1]))


def is_made_safe(shaped, steps):
    try:
        return is_safe(shaped.with_formula(Formula(casts_by_the_words(shaped, steps))))
    except (TooWide, NotPlain):
        # A cast behind a last step that rounds leaves a formula that is not plain.
        return False


class Casts(Case):

    def check(self, shaped):
        """fewest_casts against all sets of steps; how many steps it takes is returned."""
        found, size = fewest_casts(shaped), shaped.formula.size
        for many in range(size + 1):
            if any(is_made_safe(shaped, steps) for steps in itertools.combinations(range(size), many)):
                self.assertEqual(len(found), many, (shaped.formula.rows, vars(shaped.dialect)))
                self.assertIs(type(found), tuple)
                self.assertEqual(list(found), sorted(set(found)))
                self.assertTrue(is_safe(shaped.with_formula(cast_at(shaped, found))))
                return many
        self.assertIsNone(found, shaped.formula.rows)
        return None

    def test_chance_formulas(self):
        chance, seen = random.Random(53), {}
        while sum(seen.values()) < 160:
            names = sorted(chance.sample("abcd", chance.randrange(1, 4)))
            formula = Formula(rows_of(chance_plain_tree(chance, chance.randrange(2, 9), names)))
            words = [row[0] for row in formula.rows]
            if "quotient" in words or words[-1] == "round":
                continue
            cap = chance.randrange(4, 9)
            dialect = Dialect(cap, chance.randrange(cap + 1), extra=chance.randrange(2), way="halfdown")
            try:
                shaped = Shaped(formula, COLUMNS, dialect)
            except TooWide:
                continue
            if is_plain(shaped):
                self.check_cast_at(shaped, chance)
                if not is_safe(shaped):
                    many = self.check(shaped)
                    seen[many] = seen.get(many, 0) + 1
        self.assertTrue(seen[None] > 20 and seen[1] > 20 and seen[2] > 0)

    def check_cast_at(self, shaped, chance):
        size = shaped.formula.size
        steps = [chance.randrange(size) for _ in range(chance.randrange(4))]
        kept = list(steps)
        formula = cast_at(shaped, steps)
        self.assertEqual(formula.rows, casts_by_the_words(shaped, steps))
        self.assertEqual(steps, kept)
        self.assertTrue(cast_at(shaped, tuple(steps + steps)) == formula)

    def test_safe_already(self):
        for formula in (A, A + B, A * B, constant(5), A - A, (A + C).cast(3, 0), -A):
            self.assertEqual(fewest_casts(Shaped(formula, COLUMNS, Dialect(20, 0))), ())
            self.assertEqual(cast_at(Shaped(formula, COLUMNS, Dialect(20, 0)), []), formula)

    def test_the_example(self):
        wide = {name: Column(5, 2) for name in "pq"}
        narrow = Shaped(column("p") * constant(1, 3) * column("q"), wide, Dialect(14, 0))
        self.assertEqual(fewest_casts(narrow), (2,))
        self.assertEqual(cast_at(narrow, [2]).rows[3], ("cast", 2, 2, 5))
        self.assertEqual(self.check(narrow), 1)

    def test_known_casts(self):
        self.check(Shaped((A - A) * C + C, COLUMNS, Dialect(3, 0)))
        self.check(Shaped((C - C) * B + C * 100, COLUMNS, Dialect(4, 0)))
        self.check(Shaped(constant(1250, 2) * C * constant(800, 3), COLUMNS, Dialect(6, 0)))
        self.check(Shaped(A + A - A - A + A, COLUMNS, Dialect(3, 0)))
        self.check(Shaped(constant(0, 4) + C * 10, COLUMNS, Dialect(4, 0)))
        self.check(Shaped(-(-(C * constant(1000, 3))) * 10, COLUMNS, Dialect(5, 0)))
        self.check(Shaped((A + C + D).cast(1, 0), COLUMNS, Dialect(4, 0)))
        self.assertIsNone(fewest_casts(Shaped(C * 1000, COLUMNS, Dialect(4, 0))))

    def test_last_step_and_steps_that_are_always_zero(self):
        shaped = Shaped((A - A) * constant(125, 3), COLUMNS, Dialect(9, 0))
        formula = cast_at(shaped, [4, 2, 3])
        self.assertEqual(formula.rows, (
            ("column", "a"), ("column", "a"), ("difference", 0, 1), ("cast", 2, 1, 0), ("constant", 125, 3),
            ("cast", 4, 0, 3), ("product", 3, 5), ("cast", 6, 1, 0)))
        last = Shaped((A * B).cast(1, 0), COLUMNS, Dialect(9, 0))
        self.assertEqual(cast_at(last, [3]).rows[-1], ("cast", 3, 1, 2))

    def test_at_the_limits(self):
        names = "abcdefgh"
        columns = {name: Column(20, 5) for name in names}
        formula = column("a")
        for name in "bcdef":
            formula = formula * constant(1, 3) if name in "be" else formula + column(name)
        shaped = Shaped(formula * constant(100, 2), columns, Dialect(33, 0))
        steps = fewest_casts(shaped)
        self.assertEqual(shaped.formula.size, 13)
        self.assertEqual(len(steps), 1)
        self.assertTrue(is_safe(shaped.with_formula(cast_at(shaped, steps))))
        product = column("a")
        for name in names[1:]:
            product = product * column(name)
        while product.size < 40:
            product = -product
        wide = Shaped(product, {name: Column(50, 50) for name in names}, Dialect(200, 0))
        formula = cast_at(wide, list(range(40)))
        self.assertEqual(formula.size, 80)
        self.assertEqual(formula.rows[-1], ("cast", 78, 400, 400))
        self.assertIsNone(fewest_casts(wide.with_formula(product.part(4))))

    def test_results_stay(self):
        shaped = Shaped(A * B + C - D, COLUMNS, Dialect(30, 0))
        self.assertIsNone(unlike(shaped, shaped.with_formula(cast_at(shaped, [0, 2, 4, 6]))))

    def test_refused(self):
        shaped = Shaped(A * A + 1, COLUMNS, Dialect(9, 0))
        self.refuses_all_but(lambda value: isinstance(value, Shaped), fewest_casts)
        self.refuses_all_but(lambda value: isinstance(value, Shaped), lambda value: cast_at(value, [None]))
        self.refuses_all_but(lambda value: is_whole(value) and value < 5, lambda value: cast_at(shaped, [4, value, -1]),
                             BadStep, "number")
        for value in values_of_all_kinds():
            if not (is_whole(value) and value < 5):
                self.refused(BadStep, {"number": value}, cast_at, shaped, (value, None))
        for call in (fewest_casts, lambda told: cast_at(told, [0])):
            for formula, step in ((A * A + 1, 2), (A.over(2) * (A * A), 5), ((A * A).rounded(0, "cut"), 2)):
                self.refused(NotPlain, {"step": step}, call, shaped.with_formula(formula))
            for formula, step in ((A.over(2) + B.over(5), 2), (A.over(B), 2), (B.over(2).rounded(0, "cut"), 2),
                                  (B.rounded(0, "cut"), 1), (A.over(3), 2), (A.rounded(0, "cut"), 1)):
                self.refused(NotSteady, {"step": step}, call, shaped.with_formula(formula))
        # A round that is not the last step is no hindrance.
        inner = shaped.with_formula(A.rounded(0, "cut") + B)
        self.assertEqual(fewest_casts(inner), ())


if __name__ == "__main__":
    unittest.main()

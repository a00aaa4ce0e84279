"""[14], [20], [21] (e) and [54]: caps and widths, held against all of them."""

import itertools
import random
import unittest

from figurestay.caps import least_cap, widest, widest_pairs
from figurestay.dialects import Dialect
from figurestay.errors import NoColumn, NotPlain, NotSteady, TooWide, WideColumn
from figurestay.events import is_safe
from figurestay.exacts import is_plain
from figurestay.formulas import Formula, column, constant
from figurestay.shaped import Shaped
from figurestay.shapes import Column
from figurestay.ways import WAYS
from helper import Case, chance_plain_tree, rows_of, values_of_all_kinds

COLUMNS = {"a": Column(1, 0), "b": Column(0, 2, "unsigned"), "c": Column(2, 0, "positive"), "d": Column(1, 1)}
A, B, C, D = [column(name) for name in "abcd"]


def is_shaped(value):
    return isinstance(value, Shaped)


def is_safe_with(shaped, columns, cap):
    """Whether the formula is safe with these columns and this cap, what is wider than the cap is not."""
    told = shaped.dialect
    try:
        dialect = Dialect(cap, told.kept, extra=told.extra, places=told.places, way=told.way)
        return is_safe(Shaped(shaped.formula, columns, dialect))
    except (TooWide, WideColumn):
        return False


def with_wholes(shaped, wholes):
    columns = shaped.columns()
    for name, whole in wholes.items():
        columns[name] = Column(whole, columns[name].shape.scale, columns[name].mark)
    return columns


def chance_shaped(chance, steady):
    """A plain Shaped by chance; with steady one without quotients that does not end with a round."""
    while True:
        names = sorted(chance.sample("abcd", chance.randrange(1, 4)))
        formula = Formula(rows_of(chance_plain_tree(chance, chance.randrange(2, 10), names)))
        words = [row[0] for row in formula.rows]
        if steady and ("quotient" in words or words[-1] == "round"):
            continue
        cap = chance.randrange(3, 10)
        dialect = Dialect(cap, chance.randrange(cap + 1), extra=chance.randrange(2), places=chance.randrange(4),
                          way=chance.choice(WAYS))
        try:
            shaped = Shaped(formula, COLUMNS, dialect)
        except TooWide:
            continue
        if is_plain(shaped):
            return shaped


class Caps(Case):

    def check(self, shaped):
        """least_cap against all caps from m on."""
        most = max([shape.width for shape in shaped.uncapped] + [20])
        caps = range(max(1, shaped.dialect.kept), most + 3)
        safe = [cap for cap in caps if is_safe_with(shaped, shaped.columns(), cap)]
        found = least_cap(shaped)
        self.assertEqual(found, safe[0] if safe else None, (shaped.formula.rows, vars(shaped.dialect)))
        # A greater cap never makes a safe formula unsafe.
        self.assertEqual(safe, [cap for cap in caps if safe and cap >= safe[0]])
        return found

    def test_chance_formulas(self):
        chance, seen = random.Random(54), {}
        for _ in range(700):
            found = self.check(chance_shaped(chance, False))
            seen[found] = seen.get(found, 0) + 1
        self.assertTrue(seen[None] > 20 and len(seen) > 8)

    def test_what_bounds_a_cap(self):
        dialect = Dialect(30, 0)
        cases = [(A, dialect, {"a": Column(1, 0)}, 1), (A, dialect, COLUMNS, 2), (A, Dialect(30, 7), COLUMNS, 7),
                 (A, dialect, {**COLUMNS, "z": Column(9, 2)}, 11), (A * 0 + A, dialect, COLUMNS, 2),
                 (A * constant(0, 5), dialect, COLUMNS, 5), (A.cast(6, 3), dialect, COLUMNS, 9), (A + B, dialect, COLUMNS, 4),
                 (A - A, dialect, COLUMNS, 2), (A * constant(12345), dialect, COLUMNS, 6), (A.over(B), dialect, COLUMNS, None),
                 (A.over(0), dialect, COLUMNS, None), (C.cast(1, 0), dialect, COLUMNS, None), (A.over(8), dialect, COLUMNS, None),
                 (A.over(2), Dialect(30, 0, places=9), COLUMNS, 2), (constant(7), dialect, {}, 1),
                 (constant(0).over(C), dialect, COLUMNS, 2), (B.rounded(0, "away"), dialect, COLUMNS, 2)]
        for formula, told, columns, wanted in cases:
            self.assertEqual(self.check(Shaped(formula, columns, told)), wanted, formula.rows)

    def test_the_example(self):
        wide = {name: Column(5, 2) for name in "pqrs"}
        narrow = Shaped(column("p") * constant(1, 3) * column("q"), wide, Dialect(14, 0))
        self.assertEqual([least_cap(narrow), widest(narrow, "q")], [17, 2])
        pairs = [(0, 7), (1, 6), (2, 5), (3, 4), (4, 3), (5, 2), (6, 1), (7, 0)]
        self.assertEqual(widest_pairs(narrow, "p", "q"), pairs)

    def test_at_the_limits(self):
        names = "abcdefgh"
        columns = {name: Column(60, 40) for name in names}
        formula = column("a")
        for name in names[1:]:
            formula = formula * column(name)
        while formula.size < 40:
            formula = -formula
        shaped = Shaped(formula, columns, Dialect(200, 0))
        self.assertEqual(least_cap(shaped), 800)
        self.assertIsNone(widest(shaped, "a"))
        self.assertIsNone(widest(shaped.with_formula(formula.part(4)), "h"))
        pair = shaped.with_formula(column("a") * column("b") + column("c"))
        self.assertEqual((widest(pair, "a"), widest(pair, "h")), (59, 160) if is_safe(pair) else (59, None))


class Widths(Case):

    def check(self, shaped, name, other):
        """widest and widest_pairs against all whole figures; the pairs are returned."""
        cap, columns = shaped.dialect.cap, shaped.columns()
        least = {told: 1 if columns[told].shape.scale == 0 else 0 for told in columns}
        alone = [whole for whole in range(least[name], cap + 2)
                 if is_safe_with(shaped, with_wholes(shaped, {name: whole}), cap)]
        self.assertEqual(widest(shaped, name), max(alone, default=None))
        self.assertEqual(alone, list(range(least[name], least[name] + len(alone))))
        safe = {}
        for pair in itertools.product(range(least[name], cap + 2), range(least[other], cap + 2)):
            safe[pair] = is_safe_with(shaped, with_wholes(shaped, dict(zip((name, other), pair))), cap)
        wanted = [(one, two) for one, two in sorted(safe)
                  if safe[one, two] and not safe[one + 1, two] and not safe[one, two + 1]]
        self.assertEqual(widest_pairs(shaped, name, other), wanted, (shaped.formula.rows, vars(shaped.dialect)))
        return wanted

    def test_chance_formulas(self):
        chance, seen = random.Random(55), {}
        for _ in range(150):
            shaped = chance_shaped(chance, True)
            name, other = chance.sample("abcd", 2)
            many = len(self.check(shaped, name, other))
            seen[many] = seen.get(many, 0) + 1
        self.assertTrue(seen[0] > 5 and seen[1] > 20 and max(seen) > 3)

    def test_columns_that_stand_nowhere(self):
        shaped = Shaped(A + 1, COLUMNS, Dialect(7, 0))
        self.assertEqual((widest(shaped, "b"), widest(shaped, "d"), widest(shaped, "a")), (5, 6, 6))
        self.assertEqual(widest_pairs(shaped, "b", "a"), [(5, 6)])
        self.assertEqual(widest_pairs(shaped, "b", "d"), [(5, 6)])
        unsafe = Shaped(C.cast(1, 0), COLUMNS, Dialect(7, 0))
        self.assertEqual((widest(unsafe, "a"), widest_pairs(unsafe, "a", "b")), (None, []))
        self.assertEqual((widest(unsafe, "c"), widest_pairs(unsafe, "c", "b")), (1, [(1, 5)]))

    def test_marks_and_scales(self):
        for mark in ("signed", "unsigned", "positive"):
            for scale in (0, 1, 3):
                columns = {"a": Column(1, scale, mark), "b": Column(2, 1, mark)}
                for cap, kept in ((5, 0), (6, 3), (8, 8)):
                    for formula in (A * B, A + B, A - B - A, (A * 3).cast(2, 3), A * B * 0):
                        self.check(Shaped(formula, columns, Dialect(cap, kept)), "a", "b")

    def test_a_cap_of_sixty(self):
        columns = {"a": Column(5, 3), "b": Column(2, 7), "c": Column(3, 1)}
        shaped = Shaped((A * B * constant(4, 2) - C * 25).cast(40, 12), columns, Dialect(60, 5))
        pairs = widest_pairs(shaped, "a", "b")
        self.assertTrue(len(pairs) > 20 and pairs == sorted(pairs))
        self.assertEqual({one + two for one, two in pairs}, {sum(pairs[0])})
        for one, two in pairs:
            self.assertTrue(is_safe_with(shaped, with_wholes(shaped, {"a": one, "b": two}), 60))
            self.assertFalse(is_safe_with(shaped, with_wholes(shaped, {"a": one + 1, "b": two}), 60))
        self.assertEqual(shaped.columns()["a"], Column(5, 3))

    def test_refused(self):
        self.refuses_all_but(is_shaped, least_cap)
        self.refuses_all_but(is_shaped, lambda value: widest(value, None))
        self.refuses_all_but(is_shaped, lambda value: widest_pairs(value, None, None))
        shaped = Shaped(A + B, COLUMNS, Dialect(9, 0))
        calls = [least_cap, lambda told: widest(told, "z"), lambda told: widest_pairs(told, "z", "z")]
        for call in calls:
            for formula, step in ((A * A, 2), (A.over(3) + 1, 2), ((A * A).rounded(0, "cut"), 2)):
                self.refused(NotPlain, {"step": step}, call, shaped.with_formula(formula))
        for call in calls[1:]:
            for formula, step in ((A.over(3), 2), (A.over(2) + B.over(5), 2), (B.rounded(1, "cut"), 1), (A.over(C), 2)):
                self.refused(NotSteady, {"step": step}, call, shaped.with_formula(formula))
        self.assertIsNone(least_cap(shaped.with_formula(A.over(3))))
        self.check_names(shaped)

    def check_names(self, shaped):
        for value in values_of_all_kinds() + ["z", "aa"]:
            if isinstance(value, str) and value in COLUMNS:
                continue
            for call in (lambda: widest(shaped, value), lambda: widest_pairs(shaped, value, None),
                         lambda: widest_pairs(shaped, "a", value)):
                with self.assertRaises(NoColumn) as caught:
                    call()
                self.assertIs(caught.exception.name, value)
        self.refused(NoColumn, {"name": "a"}, widest_pairs, shaped, "a", "a")
        self.refused(NoColumn, {"name": "y"}, widest_pairs, shaped, "y", "y")


if __name__ == "__main__":
    unittest.main()

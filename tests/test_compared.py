"""shapes_part against all formulas of few operations, ways_part against all worths of one place."""

import random
import time
import unittest

from helper import Case

from figurestay.compared import shapes_part, ways_part
from figurestay.dialects import Dialect
from figurestay.errors import BadValue, WideColumn
from figurestay.formulas import Formula, column
from figurestay.shaped import Shaped
from figurestay.shapes import Column
from figurestay.ways import WAYS, divided
from figurestay.worths import Worth

A = column("a")
WORDS = {"sum": lambda one, other: one + other, "difference": lambda one, other: one - other,
         "product": lambda one, other: one * other, "quotient": lambda one, other: one.over(other)}


def all_formulas(names, operations):
    """All formulas of so many operations upon these columns."""
    if operations == 0:
        return [column(name) for name in names]
    return [join(one, other) for left in range(operations) for one in all_formulas(names, left)
            for other in all_formulas(names, operations - 1 - left) for join in WORDS.values()]


def operations_of(formula):
    return len([row for row in formula.rows if row[0] != "column"])


def is_unlike(formula, columns, dialect, other):
    return Shaped(formula, columns, dialect).shapes != Shaped(formula, columns, other).shapes


def chance_dialect(chance, most):
    cap = chance.randrange(3, most + 1)
    return Dialect(cap, chance.randrange(cap + 1), extra=chance.randrange(2), places=chance.randrange(4))


class Shapes(Case):

    def test_all_formulas_of_few_operations(self):
        chance = random.Random(41)
        counts = {}
        for _ in range(150):
            columns = {name: Column(chance.randrange(3), chance.randrange(1, 2)) for name in chance.choice(["a", "ab"])}
            one = chance_dialect(chance, 8)
            other = Dialect(one.cap, one.kept, extra=one.extra, places=one.places + chance.randrange(2))
            if chance.random() < 0.5:
                other = chance_dialect(chance, 8)
            if max(told.shape.width for told in columns.values()) > min(one.cap, other.cap):
                continue
            found = shapes_part(one, other, columns)
            least = next((many for many in range(3) if any(is_unlike(formula, columns, one, other)
                          for formula in all_formulas(sorted(columns), many))), None)
            if found is None:
                self.assertIsNone(least)
            else:
                self.assertTrue(is_unlike(found, columns, one, other))
                self.assertEqual({row[0] for row in found.rows} - set(WORDS), {"column"})
                self.assertEqual(operations_of(found) if operations_of(found) < 3 else None, least)
            key = None if found is None else operations_of(found)
            counts[key] = counts.get(key, 0) + 1
        self.assertTrue(all(counts.get(key, 0) > 1 for key in (None, 1, 2)), counts)

    def test_caps_that_part_late(self):
        found = shapes_part(Dialect(12, 0), Dialect(11, 0), {"a": Column(1, 0)})
        self.assertEqual(operations_of(found), 6)
        self.assertTrue(is_unlike(found, {"a": Column(1, 0)}, Dialect(12, 0), Dialect(11, 0)))
        found = shapes_part(Dialect(12, 11), Dialect(12, 12), {"a": Column(1, 0)})
        self.assertTrue(is_unlike(found, {"a": Column(1, 0)}, Dialect(12, 11), Dialect(12, 12)))

    def test_dialects_alike(self):
        dialect = Dialect(12, 3, extra=1, places=2)
        columns = {"a": Column(3, 2), "b": Column(0, 7), "c": Column(12, 0)}
        began = time.time()
        self.assertIsNone(shapes_part(dialect, dialect, columns))
        self.assertIsNone(shapes_part(dialect, Dialect(12, 3, extra=1, places=2, way="cut"), columns))
        self.assertIsNone(shapes_part(dialect, dialect, {}))
        self.assertIsNone(shapes_part(dialect, Dialect(5, 1), {}))
        # Sums alone never have one place, and a quotient never has less than two.
        self.assertIsNone(shapes_part(Dialect(6, 2, places=1), Dialect(6, 2, places=0), {"a": Column(1, 0)}))
        self.assertLess(time.time() - began, 5)

    def test_refusals(self):
        good, columns = Dialect(6, 2), {"a": Column(2, 0)}
        self.refuses_all_but(lambda value: isinstance(value, Dialect), lambda value: shapes_part(value, None, None))
        self.refuses_all_but(lambda value: isinstance(value, Dialect), lambda value: shapes_part(good, value, None))
        wide = {"b": Column(4, 1), "a": Column(3, 1), "c": Column(3, 0)}
        self.refuses_all_but(lambda value: value == {} or (isinstance(value, dict) and isinstance(value.get("a"), Column)),
                             lambda value: shapes_part(good, good, value))
        for columns in ({"A": Column(1, 0)}, {"a": Column(9, 0), "b": None}, {1: Column(1, 0)}):
            self.refused(BadValue, {"value": columns}, shapes_part, good, Dialect(3, 0), columns)
        self.refused(WideColumn, {"name": "a"}, shapes_part, good, Dialect(3, 0), wide)
        self.refused(WideColumn, {"name": "a"}, shapes_part, columns=wide, other=good, dialect=Dialect(3, 0))
        self.refused(WideColumn, {"name": "b"}, shapes_part, Dialect(4, 0), good, wide)

    def test_nothing_that_is_passed_is_changed(self):
        columns = {"b": Column(2, 1), "a": Column(1, 0)}
        found = shapes_part(Dialect(6, 2), Dialect(6, 2, extra=1), columns)
        self.assertEqual(list(columns), ["b", "a"])
        self.assertIsInstance(found, Formula)
        self.assertEqual(operations_of(found), 1)


class Ways(Case):

    def test_all_worths_of_one_place(self):
        for way in WAYS:
            for other in WAYS:
                for signed in (True, False):
                    units = [told for number in range(60) for told in ((number, -number) if signed else (number,))]
                    unlike = [told for told in units if divided(told, 10, way) != divided(told, 10, other)]
                    found = ways_part(way, other, signed)
                    self.assertEqual(found, Worth(unlike[0], 1) if unlike else None)

    def test_ways_that_are_alike_from_0_on(self):
        for way, other in (("cut", "floor"), ("away", "ceiling"), ("halfaway", "halfup"), ("halfcut", "halfdown")):
            self.assertIsNone(ways_part(way, other, False))
            self.assertIsNone(ways_part(signed=False, other=way, way=other))
            self.assertEqual(ways_part(way, other, True).sign(), -1)

    def test_the_positive_one_of_two(self):
        self.assertEqual(str(ways_part("cut", "away", True)), "0.1")
        self.assertEqual(str(ways_part("halfeven", "halfaway", True)), "0.5")
        self.assertEqual(str(ways_part("halfeven", "halfcut", True)), "1.5")

    def test_refusals(self):
        self.refuses_all_but(lambda value: value in WAYS, lambda value: ways_part(value, None, None))
        self.refuses_all_but(lambda value: value in WAYS, lambda value: ways_part("cut", value, None))


if __name__ == "__main__":
    unittest.main()

"""Roundings that are brought to one form: against the rounding itself, and that those that are always alike are seen."""

import random
import time

from helper import Case, all_worths, fraction
from test_extremes import A, B, C, LONG

from figurestay.agree import parting, parting_widths
from figurestay.dialects import Dialect
from figurestay.drops import Drops
from figurestay.formulas import Formula
from figurestay.mixes import Mix, column_reach, mixed, result_at
from figurestay.shaped import Shaped
from figurestay.shapes import Column
from figurestay.strays import apart
from figurestay.ways import WAYS, mirrored, rounded
from figurestay.worths import Worth, compare

COLUMNS = [{"a": Column(0, 1), "b": Column(0, 1, "unsigned")}, {"a": Column(1, 0), "b": Column(0, 1)}, {"a": Column(0, 2)},
           {"a": Column(1, 1, "positive")}, {"a": Column(2, 0, "unsigned")}]
FACTORS = [Worth(1), Worth(-1), Worth(5, 1), Worth(-25, 2), Worth(2), Worth(3), Worth(-7, 1), Worth(1, 1), Worth(15, 1)]
RESTS = [Worth(0), Worth(5, 1), Worth(-25, 2), Worth(1), Worth(7, 1), Worth(1, 3), Worth(-3), Worth(-15, 1)]


def all_results(drops, worths):
    """The worths of the columns and the results of all drops."""
    found = dict(worths)
    for key in range(len(drops.drops)):
        found[key] = drops.result_of(key, found)
    return found


class Folds(Case):

    def test_all_worths_of_small_columns(self):
        chance = random.Random(81)
        many = 0
        for _ in range(200):
            columns = chance.choice(COLUMNS)
            drops = Drops({name: column_reach(columns[name]) for name in columns})
            ways = chance.choice([WAYS, WAYS[:2], ("halfeven",), WAYS[2:4], ("halfup", "floor", "halfdown"), ("cut", "halfaway")])
            told, steps = [], []
            for _ in range(chance.choice([1, 2, 3, 4])):
                mix = Mix({}, chance.choice(RESTS))
                for part in told + [Mix({name: Worth(1)}, Worth(0)) for name in columns]:
                    if chance.random() < 0.6:
                        mix = mixed(mix, part, chance.choice(FACTORS))
                scale, way = chance.choice([0, 0, 1, 2]), chance.choice(ways)
                told.append(drops.rounded_mix(mix, scale, way))
                steps.append((mix, scale, way))
            ranges = [drops.range_of(result) for result in told]
            for worths in all_worths(columns):
                found = all_results(drops, worths)
                for result, (low, high) in zip(told, ranges):
                    self.assertTrue(compare(low, result_at(result, found)) <= 0 <= compare(high, result_at(result, found)))
                for result, (mix, scale, way) in zip(told, steps):
                    self.assertEqual(result_at(result, found), rounded(result_at(mix, found), scale, way))
            many += len(drops.drops)
        self.assertGreater(many, 200)

    def alike(self, one, other, columns, other_columns=None):
        """That two formulas are seen to agree without any search."""
        shapeds = [Shaped(one, columns, Dialect(200, 0)), Shaped(other, other_columns or columns, Dialect(200, 0))]
        self.assertIsNone(parting(*shapeds))
        self.assertIsNone(parting_widths(*shapeds))
        self.assertEqual([fraction(worth) for worth, _ in apart(*shapeds)], [0, 0])

    def test_what_is_always_alike(self):
        a, b, c = [formula.cast(50, 30) for formula in (A, B, C)]
        mix = a * Worth(37, 2) - b * Worth(99, 2) + c * Worth(3)
        began = time.time()
        for way in WAYS:
            self.alike(mix.rounded(2, way), -(-mix).rounded(2, mirrored(way)), LONG)
            for way_ahead in ("floor", "ceiling", "halfup", "halfdown", "halfeven"):
                ahead = (mix + a * 2).rounded(0, way_ahead)
                turned = -(-mix - a * 2 + 8).rounded(0, mirrored(way_ahead)) + 8
                self.alike((ahead - c).rounded(0, way), -(c - turned).rounded(0, mirrored(way)), LONG)
        for way in ("floor", "ceiling", "cut", "away"):
            self.alike(mix.rounded(9, way).rounded(4, way).rounded(0, way), mix.rounded(0, way), LONG)
        for way, other in (("cut", "floor"), ("away", "ceiling"), ("halfaway", "halfup"), ("halfcut", "halfdown")):
            self.alike((b + c).rounded(0, way), (b + c).rounded(0, other), LONG)
            self.alike((-b - c).rounded(0, way), (-b - c).rounded(0, mirrored(other)), LONG)
        self.alike(mix.rounded(1, "halfup"), (mix + Worth(5, 2)).rounded(1, "floor"), LONG)
        self.alike((c * 2 + a).rounded(1, "ceiling"), (a.rounded(12, "ceiling") + c).rounded(1, "ceiling") + c, LONG)
        self.assertLess(time.time() - began, 30)

    def test_what_is_alike_only_for_some_columns(self):
        pairs = ((A + C).rounded(0, "cut"), (A + C).rounded(0, "floor"))
        wide = {**LONG, "c": Column(29, 1)}
        for columns, is_alike in ((LONG, False), (wide, False), ({"a": Column(3, 9, "unsigned"), "c": LONG["c"]}, True)):
            shapeds = [Shaped(formula, columns, Dialect(200, 0)) for formula in pairs]
            if not is_alike:
                self.assertIsNotNone(parting_widths(*shapeds))
            else:
                self.alike(*pairs, columns)

    def test_sums_that_are_always_alike(self):
        """The parts of a number, each rounded by floor, add up to the floor of a multiple."""
        a = A.cast(50, 30)
        for many, parts in ((2, (0, 5)), (4, (0, 25, 5, 75)), (5, (0, 2, 4, 6, 8))):
            formulas = [(a + Worth(part, len(str(part)))).rounded(0, "floor") for part in parts]
            left, right = formulas[0], (a * many).rounded(0, "floor")
            for number, formula in enumerate(formulas[1:]):
                if number == 3:
                    right = right - formula
                else:
                    left = left + formula
            self.alike(left, right, LONG)
            other = Shaped(left + 1, LONG, Dialect(200, 0))
            self.assertEqual([str(worth) for worth, _ in apart(other, other.with_formula(right))], ["1", "1"])

    def test_a_column_that_is_taken_away_again(self):
        """Whole units that cancel leave no rounding that would have to be looked at."""
        drops = Drops({"a": column_reach(Column(29, 1)), "b": column_reach(Column(0, 30))})
        half = Mix({"a": Worth(5, 1)}, Worth(0))
        first = drops.rounded_mix(half, 0, "halfup")
        for whole in (-3, 1, 8):
            more = drops.rounded_mix(mixed(half, Mix({"a": Worth(10 * whole)}, Worth(whole)), Worth(1)), 0, "halfup")
            self.assertEqual(len(drops.drops), 1)
            self.assertEqual(mixed(more, first, Worth(-1)).factors, {"a": Worth(10 * whole)})
        self.assertEqual(drops.rounded_mix(Mix({"a": Worth(10)}, Worth(5, 1)), 0, "halfup").factors, {"a": Worth(10)})
        self.assertEqual(len(drops.drops), 1)

    def test_formulas_are_not_changed(self):
        formula = (A * Worth(37, 2)).rounded(1, "cut") - B.rounded(0, "cut")
        rows = list(formula.rows)
        shaped = Shaped(formula, LONG, Dialect(200, 0))
        self.assertIsNone(parting(shaped, shaped))
        self.assertEqual(formula, Formula(rows))

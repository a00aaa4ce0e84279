"""stray and apart, parting and parting_widths, against the working at all worths of small columns."""

import itertools
import random
import time
import unittest

from helper import (all_worths, chance_linear_pair, first_over_step, fraction, free_results, is_over,
                    straight_result)
from test_extremes import A, B, C, LONG, SMALL, WithAllWorths, texts

from figurestay.agree import parting, parting_widths
from figurestay.dialects import Dialect
from figurestay.errors import BadValue, CanOver, ColumnsDiffer, NotLinear
from figurestay.exacts import unlike
from figurestay.formulas import constant
from figurestay.linear import multipliers, rest
from figurestay.reader import read_formula
from figurestay.shaped import Shaped
from figurestay.shapes import Column
from figurestay.strays import apart, stray
from figurestay.ways import WAYS, mirrored
from figurestay.worked import work
from figurestay.worths import Worth


def last(shaped, worths):
    return free_results(shaped, worths)[1][-1]


def is_shaped(value):
    return isinstance(value, Shaped)


# Columns and pairs of formulas with four drops each, and the ends of what they are apart.
UNLIKE = [
    ({"a": (3, 27), "b": (13, 7, "unsigned"), "c": (25, 5)},
     "round(a*0.13+b*0.01-c*0.17+(round(a*0.03+b*0.13-c*0.19,3,halfeven)-round(a*0.17+59970,2,halfeven)"
     "+round(a*0.01-b*0.17-c*0.13,0,halfeven)),1,halfeven)",
     "round(a*0.11+b*0.13-c*0.19+0.412168+round(a*0.17+b*0.02+c*0.05+(round(a*0.05-b*0.11+c*0.03,22,halfeven)"
     "-round(a*0.11+b*0.07-c*0.05,2,halfeven)),3,halfeven),0,halfeven)",
     ["-4300000000000000000060191.4", "4299999999999999999940250.6"]),
    ({"a": (24, 6), "b": (16, 4, "unsigned"), "c": (6, 24)},
     "round(a*0.2-b*0.5-c*0.3+411289+(round(a*0.2-b*1.9-c*0.3-round(a*0.7+b*0.7-c*1.3+76.14,2,halfaway),2,halfeven)"
     "-round(a*1.9+b*1.7-c*1.9,11,halfaway)),1,halfaway)",
     "round(a*2.3-b*1.1-c*1.3+32645.8+(round(a*2.3+b*1.3+c*1.1,4,halfaway)-round(a*1.3-b*1.3+c*0.2,18,halfaway)),1,"
     "halfeven)-round(a*0.5+b*0.5+c*1.3,1,halfaway)",
     ["-5000000058000000003921432.9", "5000000000000000004678567.1"]),
    ({"a": (17, 13), "b": (7, 23, "unsigned"), "c": (11, 9)},
     "round(a*9-b*11+c*5-(round(a*7-b*19,2,halfeven)-round(a*17-b*3+c*11+92988.2,3,halfeven)"
     "-round(a*13+b*9+c*23,3,halfeven)),2,halfeven)",
     "round(a*23-b*23+c*11+round(a*17+b*9-c*9,4,halfeven),3,halfeven)-round(a*9-b*7+c*1,2,halfeven)"
     "+round(a*1-b*1+c*7,0,halfeven)",
     ["-3099999907012.309", "3100220092988.709"]),
]


class WithSmallColumns(WithAllWorths):

    def check_ends(self, ends, values, columns, at):
        self.assertEqual([fraction(worth) for worth, _ in ends], [min(values), max(values)])
        for worth, worths in ends:
            self.assertEqual(sorted(worths), sorted(columns))
            self.assertTrue(all(columns[name].holds(worths[name]) for name in columns))
            self.assertEqual(at(worths), fraction(worth))

    def check_can_over(self, call, shaped, step):
        with self.assertRaises(CanOver) as caught:
            call()
        self.assertEqual(caught.exception.step, step)
        self.holds_all(shaped, caught.exception.worths)
        self.assertTrue(is_over(shaped, step, free_results(shaped, caught.exception.worths)[1]))


class Strays(WithSmallColumns):

    def test_all_worths_of_small_columns(self):
        chance = random.Random(21)
        over = 0
        for _ in range(110):
            one, other = chance_linear_pair(chance)
            every = all_worths(one.columns(), sorted(set(one.formula.names() + other.formula.names())))
            if len(every) > 2500:
                continue
            wrong, other_wrong = first_over_step(one, every), first_over_step(other, every)
            if wrong is not None:
                self.check_can_over(lambda: stray(one), one, wrong)
                self.check_can_over(lambda: apart(one, other), one, wrong)
                self.check_can_over(lambda: parting(one, other), one, wrong)
                over += 1
                continue
            self.check_ends(stray(one), [last(one, worths) - straight_result(one, worths) for worths in every],
                            one.columns(), lambda worths: last(one, worths) - straight_result(one, worths))
            if other_wrong is not None:
                self.check_can_over(lambda: apart(one, other), other, other_wrong)
                continue
            values = [last(one, worths) - last(other, worths) for worths in every]
            self.check_ends(apart(one, other), values, one.columns(),
                            lambda worths: last(one, worths) - last(other, worths))
            found = parting(one, other)
            self.assertEqual(found is not None, any(values))
            if found is not None:
                self.holds_all(one, found)
                self.assertNotEqual(last(one, found), last(other, found))
        self.assertGreater(over, 2)

    def test_nothing_strays_but_where_a_cast_or_round_does(self):
        chance = random.Random(22)
        wide = Dialect(200, 200, places=60)
        seen = 0
        while seen < 40:
            shapeds = [Shaped(told.formula, told.columns(), wide) for told in chance_linear_pair(chance)]
            if any(row[0] in ("cast", "round") for told in shapeds for row in told.formula.rows):
                continue
            if any(row[0] == "quotient" for told in shapeds for row in told.formula.rows):
                continue
            one, other = shapeds
            self.assertEqual(texts(stray(one)), ["0", "0"])
            straights = [({name: worth for name, worth in multipliers(told).items() if worth.units}, rest(told))
                         for told in shapeds]
            self.assertEqual(parting(one, other) is None, straights[0] == straights[1])
            self.assertEqual(parting_widths(one, other) is None, straights[0] == straights[1])
            if straights[0] == straights[1]:
                self.assertIsNone(unlike(one, other))
            seen += 1

    def test_casts_and_rounds_of_constants_do_not_stray(self):
        shaped = Shaped(A + constant(25, 1).cast(2, 0) + constant(149, 2).rounded(1, "away"), SMALL, Dialect(30, 0))
        self.assertEqual(texts(stray(shaped)), ["0", "0"])
        self.assertEqual(str(rest(shaped)), "4.5")

    def test_mirrors_and_moved_points(self):
        chance = random.Random(23)
        tenth = {"a": Column(0, 2), "b": Column(0, 2, "unsigned")}
        for _ in range(10):
            way, other = chance.choice(WAYS), chance.choice(WAYS)
            f = (A.cast(3, 1) - B * Worth(7, 1)).rounded(1, way).rounded(0, other)
            shaped = Shaped(f, SMALL, Dialect(20, 0))
            ends = [worth for worth, _ in stray(shaped)]
            f = (B * Worth(7, 1) - A.cast(3, 1)).rounded(1, mirrored(way)).rounded(0, mirrored(other))
            low, high = stray(shaped.with_formula(f))
            self.assertEqual([-high[0], -low[0]], ends)
            f = (A.cast(3, 2) - B * Worth(7, 1)).rounded(2, way).rounded(1, other)
            self.assertEqual([worth for worth, _ in stray(Shaped(f, tenth, Dialect(20, 0)))],
                             [worth * Worth(1, 1) for worth in ends])

    def test_wide_columns(self):
        began = time.time()
        shaped = Shaped((A * Worth(37, 2)).rounded(2, "halfeven").rounded(0, "halfaway") - B.rounded(1, "cut"),
                        LONG, Dialect(200, 0))
        low, high = stray(shaped)
        # 0.37 a ends in .495, so that it is rounded to .50 and then up; b is one unit less than a tenth.
        for worth, worths in (low, high):
            self.holds_all(shaped, worths)
            self.assertEqual(fraction(work(shaped, worths).result) - straight_result(shaped, worths), fraction(worth))
        self.assertEqual(str(high[0]), "0.6049999999999999999999999999")
        self.assertEqual(str(low[0]), "-0.505")
        self.assertLess(time.time() - began, 5)

    def test_refusals(self):
        good = Shaped(A + B, SMALL, Dialect(20, 0))
        curved = good.with_formula(constant(99).cast(1, 0) + A * B)
        other_curved = good.with_formula(A * B)
        over = good.with_formula(A + constant(99).cast(1, 0))
        self.refuses_all_but(is_shaped, stray)
        self.refused(NotLinear, {"step": 4}, stray, curved)
        for call in (apart, parting, parting_widths):
            self.refuses_all_but(is_shaped, lambda value: call(value, None))
            self.refuses_all_but(is_shaped, lambda value: call(good, value))
            unlike_columns = Shaped(A * B, {"a": Column(1, 2), "b": Column(1, 1), "d": Column(1, 0)}, Dialect(20, 0))
            self.refused(ColumnsDiffer, {"name": "a"}, call, curved, unlike_columns)
            self.refused(ColumnsDiffer, {"name": "a"}, call, other=curved, one=unlike_columns)
            self.refused(ColumnsDiffer, {"name": "c"}, call, good, Shaped(A, {"a": SMALL["a"], "b": SMALL["b"]},
                                                                          Dialect(20, 0)))
            self.refused(NotLinear, {"step": 4}, call, curved, other_curved)
            self.refused(NotLinear, {"step": 2}, call, other_curved, curved)
            self.refused(NotLinear, {"step": 2}, call, over, other_curved)
        for call in (lambda: stray(over), lambda: apart(over, good), lambda: parting(good, over)):
            with self.assertRaises(CanOver) as caught:
                call()
            self.assertEqual(caught.exception.step, 2)
            self.holds_all(over, caught.exception.worths)
        later = good.with_formula(A + B + constant(99).cast(1, 0))
        for one, other, step in ((over, later, 2), (later, over, 4)):
            with self.assertRaises(CanOver) as caught:
                apart(one, other)
            self.assertEqual(caught.exception.step, step)

    def test_the_dialects_may_differ(self):
        one, other = Shaped(A.cast(2, 0), SMALL, Dialect(20, 0, way="floor")), Shaped(A.cast(2, 0), SMALL, Dialect(9, 1))
        self.assertEqual(texts(apart(one, other)), ["-1", "0"])


class Widths(WithSmallColumns):

    def test_all_worths_of_few_figures(self):
        chance = random.Random(31)
        parted = agreed = 0
        for at in range(70):
            one, other = chance_linear_pair(chance)
            if at % 7 == 0:
                other = one.with_formula(0 - (3 - one.formula * 1) + 3)
            columns = one.columns()
            standing = sorted(set(one.formula.names() + other.formula.names()))
            found = parting_widths(one, other)
            for figures in range(3 if len(standing) < 2 else 2):
                parts = any(last(one, worths) != last(other, worths)
                            for worths in self.worths_of_width(columns, standing, figures))
                self.assertEqual(parts, found is not None and found[0] <= figures)
            if found is None:
                agreed += 1
                continue
            parted += 1
            figures, worths = found
            self.assertEqual(sorted(worths), sorted(columns))
            self.assertNotEqual(last(one, worths), last(other, worths))
            units = [worths[name].units_at(columns[name].shape.scale) for name in standing]
            self.assertEqual(figures, max([len(str(abs(told))) for told in units if told], default=0))
            for name in columns:
                sign, mark = worths[name].sign(), columns[name].mark
                self.assertTrue(mark == "signed" or sign > 0 or (sign == 0 and mark == "unsigned"))
                self.assertTrue(name in standing or columns[name].holds(worths[name]))
        self.assertGreater(parted, 30)
        self.assertGreater(agreed, 5)

    def worths_of_width(self, columns, standing, figures):
        rows = []
        for name in standing:
            most, scale = 10 ** figures - 1, columns[name].shape.scale
            least = {"signed": -most, "unsigned": 0, "positive": 1}[columns[name].mark]
            rows.append([Worth(units, scale) for units in range(least, most + 1)])
        return [dict(zip(standing, chosen)) for chosen in itertools.product(*rows)]

    def test_agree_as_told_and_part_if_wider(self):
        columns = {"a": Column(1, 1, "unsigned"), "b": Column(3, 0)}
        one = Shaped((A * Worth(5, 1)).rounded(0, "halfup"), columns, Dialect(20, 0))
        for extra in (0, 5, 40):
            told = Worth(5, 1)
            far = (A * told - 10 ** extra).rounded(0, "halfaway") + 10 ** extra
            other = one.with_formula(far) if extra < 18 else Shaped(far, columns, Dialect(80, 0))
            found = parting_widths(one, other)
            # Ties below 0 part them: there are such with one figure already, if anything is taken away.
            self.assertIsNotNone(found)
            self.assertEqual(found[0], 2)
        other = one.with_formula((A * Worth(5, 1) + 1000).rounded(0, "halfaway") - 1000)
        self.assertIsNone(parting_widths(one, other))
        signed = {"a": Column(1, 1), "b": Column(3, 0)}
        found = parting_widths(Shaped(one.formula, signed, Dialect(20, 0)), Shaped(other.formula, signed, Dialect(20, 0)))
        self.assertEqual(found[0], 5)
        self.assertEqual(found[1]["a"].sign(), -1)
        told = Shaped(one.formula, signed, Dialect(20, 0)), Shaped(other.formula, signed, Dialect(20, 0))
        self.assertIsNone(parting(*told))

    def test_multipliers_that_differ_part_as_soon_as_columns_are_wide_enough(self):
        columns = {"a": Column(1, 0, "unsigned")}
        one = Shaped((A * Worth(99, 2)).rounded(0, "halfup"), columns, Dialect(20, 0))
        other = one.with_formula(A)
        self.assertEqual(parting_widths(one, other)[0], 2)
        self.assertEqual(fraction(parting_widths(one, other)[1]["a"]) >= 50, True)

    def test_whole_figures_may_differ_and_the_rest_may_not(self):
        one = Shaped(A.rounded(0, "cut"), {"a": Column(1, 1)}, Dialect(20, 0))
        other = Shaped(A.rounded(0, "floor"), {"a": Column(9, 1)}, Dialect(20, 0))
        figures, worths = parting_widths(one, other)
        self.assertEqual([figures, worths["a"].sign()], [1, -1])
        self.refused(ColumnsDiffer, {"name": "a"}, parting, one, other)
        for told in (Column(1, 2), Column(1, 1, "unsigned")):
            self.refused(ColumnsDiffer, {"name": "a"}, parting_widths, one, Shaped(A, {"a": told}, Dialect(20, 0)))

    def test_marks_and_no_columns(self):
        positive = {"a": Column(1, 0, "positive"), "b": Column(1, 0, "unsigned")}
        one = Shaped(A * 2, positive, Dialect(20, 0))
        figures, worths = parting_widths(one, one.with_formula(A))
        self.assertEqual(figures, 1)
        self.assertEqual(worths["a"].sign(), 1)
        one = Shaped(B * 2 + 1, positive, Dialect(20, 0))
        self.assertEqual(parting_widths(one, one.with_formula(B))[0], 0)
        one = Shaped(constant(2), positive, Dialect(20, 0))
        self.assertEqual(parting_widths(one, one.with_formula(constant(3)))[0], 0)
        self.assertIsNone(parting_widths(one, one))

    def test_no_width_is_looked_at(self):
        one = Shaped(constant(99).cast(1, 0) + A, SMALL, Dialect(20, 0))
        self.assertIsNone(parting_widths(one, one.with_formula(A + 99)))

    def test_wide_columns_and_four_drops(self):
        began = time.time()
        early = ((A * Worth(19, 2)).rounded(2, "halfeven") + (B * Worth(7, 2)).rounded(2, "halfeven")
                 + (C * Worth(25, 2)).rounded(1, "halfeven")).rounded(1, "halfaway")
        late = (A * Worth(19, 2) + B * Worth(7, 2) + C * Worth(25, 2)).rounded(1, "halfaway")
        one, other = [Shaped(formula, LONG, Dialect(200, 0)) for formula in (early, late)]
        low, high = apart(one, other)
        for worth, worths in (low, high):
            self.holds_all(one, worths)
            self.assertEqual(work(one, worths).result - work(other, worths).result, worth)
        self.assertEqual(texts((low, high)), ["-0.1", "0.1"])
        found = parting(one, other)
        self.assertNotEqual(last(one, found), last(other, found))
        self.assertLessEqual(parting_widths(one, other)[0], 30)
        self.assertIsNone(parting(one, one.with_formula(early * 1)))
        self.assertIsNone(parting_widths(one, one.with_formula(1 * early + 0)))
        self.assertLess(time.time() - began, 10)

    def test_four_drops_in_each_of_two_formulas_that_have_nothing_in_common(self):
        began = time.time()
        for columns, one, other, ends in UNLIKE:
            columns = {name: Column(*told) for name, told in columns.items()}
            pair = [Shaped(read_formula(text), columns, Dialect(200, 0)) for text in (one, other)]
            found = apart(*pair)
            self.assertEqual(texts(found), ends)
            for worth, worths in found:
                self.holds_all(pair[0], worths)
                self.assertEqual(work(pair[0], worths).result - work(pair[1], worths).result, worth)
            self.assertEqual([-worth for worth, _ in apart(*pair[::-1])], [worth for worth, _ in found[::-1]])
            for shaped in pair:
                for worth, worths in stray(shaped):
                    self.assertEqual(fraction(worth), last(shaped, worths) - straight_result(shaped, worths))
            self.assertIsNotNone(parting(*pair))
            self.assertIsNone(parting_widths(pair[0], pair[0].with_formula(0 + pair[0].formula)))
        self.assertLess(time.time() - began, 15)

    def test_ways_that_are_alike_from_0_on(self):
        pairs = (("cut", "floor"), ("away", "ceiling"), ("halfaway", "halfup"), ("halfcut", "halfdown"))
        for mark in ("signed", "unsigned", "positive"):
            columns = {"a": Column(10, 20, mark)}
            for pair in pairs:
                one, other = [Shaped(A.cast(12, 20).rounded(3, way), columns, Dialect(50, 0)) for way in pair]
                self.assertEqual(parting(one, other) is None, mark != "signed")
                self.assertEqual(parting_widths(one, other) is None, mark != "signed")


if __name__ == "__main__":
    unittest.main()

"""extremes, first_over and losing, against the working at all worths of small columns."""

import random
import time
import unittest

from helper import (Case, all_worths, chance_linear_pair, first_over_step, fraction, free_results, is_over, is_whole)

from figurestay.dialects import Dialect
from figurestay.errors import BadStep, BadValue, CanOver, NotLinear
from figurestay.exacts import exact_range, is_plain
from figurestay.extremes import extremes, first_over, losing
from figurestay.formulas import Formula, column, constant
from figurestay.shaped import Shaped
from figurestay.shapes import Column
from figurestay.ways import WAYS, mirrored
from figurestay.worked import work
from figurestay.worths import Worth

A, B, C = column("a"), column("b"), column("c")
LONG = {"a": Column(15, 15), "b": Column(2, 28, "unsigned"), "c": Column(29, 1, "positive")}
SMALL = {"a": Column(1, 1), "b": Column(1, 1, "unsigned"), "c": Column(1, 0, "positive")}


def texts(ends):
    return [str(worth) for worth, _ in ends]


class WithAllWorths(Case):

    def holds_all(self, shaped, worths):
        columns = shaped.columns()
        self.assertEqual(sorted(worths), sorted(columns))
        self.assertTrue(all(columns[name].holds(worths[name]) for name in columns))


class Extremes(WithAllWorths):

    def test_all_worths_of_small_columns(self):
        chance = random.Random(11)
        over = lost = 0
        for _ in range(110):
            shaped, _ = chance_linear_pair(chance)
            every = all_worths(shaped.columns(), shaped.formula.names())
            tables = [free_results(shaped, worths) for worths in every]
            wrong = first_over_step(shaped, every)
            over += self.check_first_over(shaped, wrong)
            for step in range(shaped.formula.size):
                if wrong is not None and wrong < step:
                    self.check_can_over(shaped, step, wrong)
                    continue
                results = [results[step] for _, results in tables]
                ends = extremes(shaped, step)
                self.assertEqual([fraction(worth) for worth, _ in ends], [min(results), max(results)])
                for worth, worths in ends:
                    self.holds_all(shaped, worths)
                    self.assertEqual(free_results(shaped, worths)[1][step], fraction(worth))
                lost += self.check_losing(shaped, step, any(raws[step] != found[step] for raws, found in tables))
        self.assertGreater(over, 4)
        self.assertGreater(lost, 30)

    def check_first_over(self, shaped, wrong):
        found = first_over(shaped)
        if wrong is None:
            self.assertIsNone(found)
            return 0
        step, worths = found
        self.assertEqual(step, wrong)
        self.holds_all(shaped, worths)
        self.assertEqual(work(shaped, worths).events[-1], (step, "over"))
        return 1

    def check_can_over(self, shaped, step, wrong):
        for call in (extremes, losing):
            with self.assertRaises(CanOver) as caught:
                call(shaped, step)
            self.assertEqual(caught.exception.step, wrong)
            self.holds_all(shaped, caught.exception.worths)
            results = free_results(shaped, caught.exception.worths)[1]
            self.assertTrue(is_over(shaped, wrong, results))

    def check_losing(self, shaped, step, is_lost):
        worths = losing(shaped, step)
        self.assertEqual(worths is not None, is_lost)
        if is_lost:
            self.holds_all(shaped, worths)
            raws, results = free_results(shaped, worths)
            self.assertNotEqual(raws[step], results[step])
        return is_lost

    def test_a_column_that_cancels_itself(self):
        shaped = Shaped(B - B.rounded(0, "floor"), SMALL, Dialect(20, 0))
        self.assertEqual(texts(extremes(shaped, 3)), ["0", "0.9"])
        shaped = Shaped((A - A).cast(1, 0), SMALL, Dialect(20, 0))
        self.assertEqual(texts(extremes(shaped, 3)), ["0", "0"])
        self.assertIsNone(losing(shaped, 3))
        shaped = Shaped((A - A + Worth(25, 1)).cast(1, 0), SMALL, Dialect(20, 0))
        self.assertEqual(texts(extremes(shaped, 5)), ["3", "3"])
        self.holds_all(shaped, losing(shaped, 5))
        tight = A.cast(2, 1)
        shaped = Shaped((tight.rounded(0, "floor") - tight.rounded(0, "ceiling")) * 5, SMALL, Dialect(20, 0))
        self.assertEqual(texts(extremes(shaped, shaped.formula.size - 1)), ["-5", "0"])

    def test_steps_without_columns(self):
        shaped = Shaped(constant(25, 1).cast(1, 0) + A, SMALL, Dialect(20, 0, way="halfeven"))
        self.assertEqual(texts(extremes(shaped, 1)), ["2", "2"])
        self.holds_all(shaped, losing(shaped, 1))
        self.assertIsNone(losing(shaped, 0))
        self.assertIsNone(losing(shaped, 3))
        self.assertEqual(texts(extremes(shaped, 3)), ["-7.9", "11.9"])
        shaped = Shaped(constant(7).over(constant(3)).rounded(0, "away").rounded(1, "cut"), SMALL, Dialect(20, 0))
        self.assertEqual([losing(shaped, step) is None for step in range(5)], [True, True, False, False, True])

    def test_steps_without_columns_that_are_over_at_all_worths(self):
        shaped = Shaped(A + constant(995, 1).cast(2, 0), SMALL, Dialect(20, 0))
        self.assertEqual(texts(extremes(shaped, 2)), ["100", "100"])
        self.assertEqual(first_over(shaped)[0], 2)
        self.holds_all(shaped, first_over(shaped)[1])
        with self.assertRaises(CanOver) as caught:
            extremes(shaped, 3)
        self.assertEqual(caught.exception.step, 2)
        self.holds_all(shaped, caught.exception.worths)
        self.assertIsNone(losing(shaped.with_formula(A + constant(12).cast(1, 0)), 2))

    def test_rounds_that_come_to_one_figure_more(self):
        for way, is_found in (("halfup", True), ("floor", False), ("away", True), ("halfcut", True), ("cut", False)):
            shaped = Shaped(B.rounded(0, way), SMALL, Dialect(20, 0))
            self.assertEqual(first_over(shaped) is not None, is_found)
            self.assertEqual(texts(extremes(shaped, 1)), ["0", "10" if is_found else "9"])

    def test_casts_within_casts(self):
        shaped = Shaped((B.cast(2, 0) * Worth(5, 1)).cast(2, 0), SMALL, Dialect(20, 0, way="halfeven"))
        self.assertEqual(texts(extremes(shaped, 4)), ["0", "5"])
        self.assertIsNone(first_over(shaped))

    def test_quotients(self):
        for divisor, high in ((Worth(2), "4.95"), (Worth(5), "1.98"), (Worth(8), "1.2375"), (Worth(4, 1), "24.75")):
            shaped = Shaped(A.over(divisor), SMALL, Dialect(30, 9, places=4))
            self.assertEqual(texts(extremes(shaped, 2)), ["-" + high, high])
            self.assertIsNone(losing(shaped, 2))
        shaped = Shaped(A.over(-8), SMALL, Dialect(20, 0, places=0))
        self.assertEqual(texts(extremes(shaped, 3)), ["-1.237", "1.238"])
        self.holds_all(shaped, losing(shaped, 3))

    def test_the_width_of_the_step_itself_is_not_looked_at(self):
        shaped = Shaped(A + C, SMALL, Dialect(2, 1))
        self.assertEqual(texts(extremes(shaped, 2)), ["-8.9", "18.9"])
        self.assertEqual(first_over(shaped)[0], 2)

    def test_exact_ranges_where_nothing_is_cut(self):
        chance = random.Random(12)
        seen = 0
        for _ in range(150):
            told, _ = chance_linear_pair(chance)
            shaped = Shaped(told.formula, told.columns(), Dialect(200, 200, places=50))
            if not is_plain(shaped) or any(row[0] in ("cast", "round") for row in shaped.formula.rows):
                continue
            last = shaped.formula.size - 1
            if any(row[0] == "quotient" for row in shaped.formula.rows[:1 + last]):
                continue
            self.assertEqual([worth for worth, _ in extremes(shaped, last)],
                             [worth for worth, _ in exact_range(shaped, last)])
            self.assertIsNone(losing(shaped, last))
            self.assertIsNone(first_over(shaped))
            seen += 1
        self.assertGreater(seen, 20)

    def test_events_that_working_shows(self):
        """Without an over or a losing step the working has no event; with one it has it at the worths that are told."""
        shaped = Shaped(A * Worth(5, 1) - B, SMALL, Dialect(3, 1))
        step, worths = 2, losing(shaped, 2)
        self.assertIsNone(worths)
        self.assertIsNone(first_over(shaped))
        shaped = Shaped((A * Worth(5, 1) - B) * 3, SMALL, Dialect(4, 1))
        step, worths = 6, losing(shaped, 6)
        self.assertIn((step, "lost"), work(shaped, worths).events)

    def test_moved_points_and_mirrors(self):
        chance = random.Random(13)
        for _ in range(12):
            way, other = chance.choice(WAYS), chance.choice(WAYS)
            f = (A * 3).rounded(1, way) + (B * Worth(7, 1) - A).rounded(0, other)
            shaped = Shaped(f, SMALL, Dialect(20, 0))
            ends = [worth for worth, _ in extremes(shaped, f.size - 1)]
            tenth = {"a": Column(0, 2), "b": Column(0, 2, "unsigned")}
            g = (A * 3).rounded(2, way) + (B * Worth(7, 1) - A).rounded(1, other)
            moved = Shaped(g, tenth, Dialect(20, 0))
            self.assertEqual([worth * Worth(1, 1) for worth in ends], [worth for worth, _ in extremes(moved, g.size - 1)])
            h = (A * -3).rounded(1, mirrored(way)) + (A - B * Worth(7, 1)).rounded(0, mirrored(other))
            low, high = extremes(shaped.with_formula(h), h.size - 1)
            self.assertEqual([-high[0], -low[0]], ends)

    def test_refusals(self):
        good = Shaped(A + B, SMALL, Dialect(20, 0))
        bad = good.with_formula((A * B) + constant(99).cast(1, 0))
        for call in (extremes, losing):
            self.refuses_all_but(lambda value: isinstance(value, Shaped), lambda value: call(value, None))
            self.refuses_all_but(lambda value: is_whole(value) and value < 3, lambda value: call(good, value),
                                 BadStep, "number")
            self.refused(BadStep, {"number": 6}, call, bad, 6)
            self.refused(NotLinear, {"step": 2}, call, bad, 0)
            self.refused(NotLinear, {"step": 2}, call, shaped=bad, step=5)
        self.refuses_all_but(lambda value: isinstance(value, Shaped), first_over)
        self.refused(NotLinear, {"step": 2}, first_over, bad)
        over = good.with_formula(constant(99).cast(1, 0) + A * B)
        self.refused(NotLinear, {"step": 4}, extremes, over, 0)
        self.refused(NotLinear, {"step": 4}, first_over, over)

    def test_steps_ahead_that_do_not_lead_to_the_step_count_too(self):
        shaped = Shaped(constant(99).cast(1, 0) + A.rounded(0, "cut"), SMALL, Dialect(20, 0))
        for call in (extremes, losing):
            with self.assertRaises(CanOver):
                call(shaped, 2)
        self.assertEqual(texts(extremes(shaped, 0)), ["99", "99"])


class Limits(WithAllWorths):

    def test_wide_columns_and_four_drops(self):
        f = ((A * Worth(37, 2)).rounded(2, "halfeven") + (B * Worth(99, 2)).rounded(1, "halfaway")
             - (C * 12 + A).rounded(0, "cut") + constant(9999999999)).rounded(0, "away")
        shaped = Shaped(f, LONG, Dialect(200, 0))
        began = time.time()
        low, high = extremes(shaped, f.size - 1)
        for worth, worths in (low, high):
            self.holds_all(shaped, worths)
            self.assertEqual(work(shaped, worths).result, worth)
        self.assertLess(low[0].units, -11 * 10 ** 29)
        self.holds_all(shaped, losing(shaped, f.size - 1))
        self.assertLess(time.time() - began, 5)

    def test_what_trying_out_would_not_find(self):
        """Just one worth of 10 ** 30 is rounded to the greatest number."""
        columns = {"a": Column(0, 30, "unsigned")}
        shaped = Shaped((A * 7).rounded(0, "floor"), columns, Dialect(200, 0))
        low, high = extremes(shaped, 3)
        self.assertEqual([str(low[0]), str(high[0])], ["0", "6"])
        shaped = Shaped(A.rounded(0, "floor") + A.cast(1, 30).rounded(29, "ceiling"), columns, Dialect(200, 0))
        low, high = extremes(shaped, 5)
        self.assertEqual(str(high[0]), "1")
        least = Worth(10 ** 30 - 9, 30)
        self.assertTrue(least.units <= high[1]["a"].units_at(30))

    def test_sixty_steps(self):
        f = A
        for number in range(14):
            f = f + B - C * 2 if number % 2 else f - B + C * 2
        f = f.rounded(3, "halfeven")
        self.assertLessEqual(f.size, 100)
        shaped = Shaped(f, LONG, Dialect(200, 0))
        began = time.time()
        self.assertIsNone(first_over(shaped))
        low, high = extremes(shaped, f.size - 1)
        self.assertEqual(str(high[0]), "1" + "0" * 15)
        self.assertLess(time.time() - began, 5)


class Shapes(unittest.TestCase):

    def test_new_dicts_and_lists_for_tuples(self):
        columns = dict(SMALL)
        shaped = Shaped(Formula([("column", "a"), ("round", 0, 0, "cut")]), columns, Dialect(20, 0))
        first = extremes(shaped, 1)
        first[0][1].clear()
        self.assertEqual(sorted(extremes(step=1, shaped=shaped)[0][1]), ["a", "b", "c"])
        self.assertIsInstance(first, tuple)
        self.assertIsInstance(first[0], tuple)


if __name__ == "__main__":
    unittest.main()

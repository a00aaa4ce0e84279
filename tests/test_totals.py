"""Totals, tallies and crowds, against an adding up entry by entry and all orders of few entries."""

import itertools
import random
import time
import unittest
from fractions import Fraction

from helper import Case, all_worths, fraction, is_whole, is_worth, values_of_all_kinds, worths_of

from figurestay.crowds import over_from, rounding_gap, running_gap, running_over_from
from figurestay.dialects import Dialect
from figurestay.errors import BadColumn, BadEntry, BadValue, Divides, Gaps, NotPlain
from figurestay.formulas import column, constant
from figurestay.shaped import Shaped
from figurestay.shapes import Column
from figurestay.tallies import order_for, tally_range
from figurestay.totals import rounded_total, running_total, total_of_rounded
from figurestay.ways import WAYS, divided, mirrored, rounded
from figurestay.worths import Worth

A, B = column("a"), column("b")


def round_to(number, scale, way):
    """A Fraction, rounded."""
    many = number * 10 ** scale
    return Fraction(divided(many.numerator, many.denominator, way), 10 ** scale)


def one_by_one(numbers, scale, way):
    """The running total of Fractions."""
    total = Fraction(0)
    for number in numbers:
        total = round_to(total + number, scale, way)
    return total


def spread_out(entries):
    return [fraction(worth) for worth, times in entries for _ in range(times)]


def chance_worth(chance, most=25, places=2):
    scale = chance.randrange(places + 1)
    return Worth(chance.choice([chance.randint(-most, most), 5 * chance.randint(-3, 3)]), scale)


def is_way(value):
    return value in WAYS


class Totals(Case):

    def test_entry_by_entry(self):
        chance = random.Random(51)
        for _ in range(1500):
            entries = [(chance_worth(chance), chance.choice([0, 1, 1, 2, 3, 17])) for _ in range(chance.randrange(6))]
            scale, way = chance.randrange(3), chance.choice(WAYS)
            numbers = spread_out(entries)
            self.assertEqual(fraction(rounded_total(entries, scale, way)), round_to(sum(numbers), scale, way))
            self.assertEqual(fraction(total_of_rounded(entries, scale, way)),
                             sum(round_to(number, scale, way) for number in numbers))
            self.assertEqual(fraction(running_total(entries, scale, way)), one_by_one(numbers, scale, way))

    def test_many_equal_entries_behind_a_total_on_the_other_side(self):
        for way in WAYS:
            for units in range(-25, 26, 5):
                for start in range(-9, 10, 3):
                    for times in (1, 2, 5, 40):
                        entries = [(Worth(start), 1), (Worth(units, 1), times), (Worth(-units, 1), 3)]
                        self.assertEqual(fraction(running_total(entries, 0, way)),
                                         one_by_one(spread_out(entries), 0, way))

    def test_up_to_the_limits(self):
        began = time.time()
        many = 10 ** 60
        # Below 0 each entry adds 3, from there on 2; the sum comes to -1 and then, by 1.5, to 1.
        below = 7 * 10 ** 50 // 3
        self.assertEqual(running_total([(Worth(-7 * 10 ** 50), 1), (Worth(25, 1), below)], 0, "cut"), Worth(-1))
        self.assertEqual(running_total([(Worth(-7 * 10 ** 50), 1), (Worth(25, 1), many)], 0, "cut"),
                         Worth(-1 + 2 * (many - below)))
        self.assertEqual(running_total([(Worth(5, 1), many)], 0, "away"), Worth(many))
        self.assertEqual(running_total([(Worth(15, 1), many)], 0, "halfeven"), Worth(2 * many))
        entries = [(Worth(10 ** 399 + number, 400 - number), many - number) for number in range(100)]
        for way in WAYS:
            for call in (rounded_total, total_of_rounded, running_total, tally_range):
                call(entries, 200, way)
        self.assertLess(time.time() - began, 10)

    def test_times_0_and_no_entries(self):
        for way in WAYS:
            for call in (rounded_total, total_of_rounded, running_total):
                self.assertEqual(call([], 3, way), Worth(0))
                self.assertEqual(call([(Worth(5, 1), 0), [Worth(-7, 3), 0]], 0, way), Worth(0))
            self.assertEqual(tally_range([(Worth(5, 1), 0)], 0, way), (Worth(0), Worth(0)))

    def test_lists_for_tuples_and_names(self):
        entries = ([Worth(5, 1), 3], (Worth(1), 1))
        for call in (rounded_total, total_of_rounded, running_total):
            self.assertEqual(call(entries, 0, "halfeven"), call(way="halfeven", entries=list(entries), scale=0))
        self.assertEqual(entries, ([Worth(5, 1), 3], (Worth(1), 1)))

    def test_refusals(self):
        good = [(Worth(1), 1)]
        for call in (rounded_total, total_of_rounded, running_total, tally_range):
            for value in values_of_all_kinds():
                self.refused(BadEntry, {"index": 1}, call, good + [value], None, None)
                if not is_worth(value):
                    self.refused(BadEntry, {"index": 0}, call, [(value, 1), (Worth(1), None)], 0, "cut")
                if not is_whole(value):
                    self.refused(BadEntry, {"index": 2}, call, good + good + [[Worth(1), value]], -1, "cut")
            self.refused(BadEntry, {"index": 0}, call, [(Worth(1), 1, 1)], 0, "cut")
            self.refused(BadEntry, {"index": 0}, call, [(Worth(1),)], 0, "cut")
            self.refuses_all_but(is_whole, lambda value: call(good, value, None))
            self.refuses_all_but(is_way, lambda value: call(good, 0, value))


class Tallies(Case):

    def test_all_orders_of_few_entries(self):
        chance = random.Random(52)
        for _ in range(260):
            scale, way = chance.randrange(2), chance.choice(WAYS[2:4] + WAYS)
            worths = [chance_worth(chance, 25, 1 + scale) for _ in range(chance.randrange(6))]
            totals = {one_by_one([fraction(worth) for worth in order], scale, way)
                      for order in itertools.permutations(worths)}
            least, greatest = tally_range([(worth, 1) for worth in worths], scale, way)
            self.assertEqual([fraction(least), fraction(greatest)], [min(totals), max(totals)])
            low, high = int(min(totals) * 10 ** scale), int(max(totals) * 10 ** scale)
            for units in range(low - 2, high + 3):
                total = Worth(units, scale)
                if way in ("away", "halfaway") and units not in (low, high):
                    self.refused(Gaps, {"way": way}, order_for, worths, scale, way, total)
                    continue
                order = order_for(worths, scale, way, total)
                self.assertEqual(order is not None, fraction(total) in totals)
                if order is not None:
                    self.assertEqual(sorted(order), list(range(len(worths))))
                    found = one_by_one([fraction(worths[index]) for index in order], scale, way)
                    self.assertEqual(found, fraction(total))
        self.assertEqual({one_by_one(order, 0, "away") for order in ((Fraction(1, 2), -Fraction(1, 2)),
                                                                     (-Fraction(1, 2), Fraction(1, 2)))}, {-1, 1})

    def test_times_are_as_many_entries(self):
        chance = random.Random(53)
        for _ in range(300):
            entries = [(chance_worth(chance), chance.randrange(5)) for _ in range(4)]
            way = chance.choice(WAYS)
            one_each = [(worth, 1) for worth, times in entries for _ in range(times)]
            chance.shuffle(one_each)
            self.assertEqual(tally_range(entries, 0, way), tally_range(one_each, 0, way))

    def test_sixty_worths(self):
        chance = random.Random(54)
        began = time.time()
        for way in ("halfeven", "cut", "halfcut", "floor", "away"):
            worths = [Worth(chance.choice([-1, 1]) * (5 + 10 * chance.randrange(4)), 1) for _ in range(60)]
            least, greatest = tally_range([(worth, 1) for worth in worths], 0, way)
            for total in (least, greatest, Worth((least.units + greatest.units) // 2)):
                if way == "away" and total not in (least, greatest):
                    continue
                order = order_for(worths, 0, way, total)
                self.assertEqual(sorted(order), list(range(60)))
                self.assertEqual(running_total([(worths[index], 1) for index in order], 0, way), total)
        self.assertLess(time.time() - began, 15)

    def test_totals_that_have_not_the_scale(self):
        worths = [Worth(5, 1), Worth(-5, 1)]
        for way in WAYS:
            if way in ("away", "halfaway"):
                self.refused(Gaps, {"way": way}, order_for, worths, 0, way, Worth(5, 1))
            else:
                self.assertIsNone(order_for(worths, 0, way, Worth(5, 1)))
        self.assertEqual(order_for([], 0, "cut", Worth(0)), [])
        self.assertIsNone(order_for([], 0, "cut", Worth(1)))

    def test_refusals(self):
        good = [Worth(1), Worth(5, 1)]
        for value in values_of_all_kinds():
            if not is_worth(value):
                with self.assertRaises(BadValue) as caught:
                    order_for(good + [value, None], None, None, None)
                self.assertIs(caught.exception.value, value)
        self.refuses_all_but(is_whole, lambda value: order_for(good, value, None, None))
        self.refuses_all_but(is_way, lambda value: order_for(good, 0, value, None))
        self.refuses_all_but(is_worth, lambda value: order_for(good, 0, "away", value))
        self.refused(Gaps, {"way": "away"}, order_for, total=Worth(7), way="away", scale=0, worths=tuple(good))
        self.assertEqual(order_for(tuple(good), 0, "floor", Worth(1)), [0, 1])


COLUMNS = [Column(1, 1), Column(0, 1), Column(0, 2, "unsigned"), Column(1, 1, "unsigned"), Column(0, 2, "positive"),
           Column(1, 0), Column(0, 1, "positive"), Column(1, 1, "positive")]


class Crowds(Case):

    def test_rounding_gaps_of_all_entries(self):
        for told in COLUMNS:
            worths = [fraction(worth) for worth in worths_of(told)]
            for scale, way, many in itertools.product((0, 1, 2), WAYS, (1, 2, 3, 4, 7, 10)):
                ends = rounding_gap(told, scale, way, many)
                gaps = [round_to(number * many, scale, way) - many * round_to(number, scale, way) for number in worths]
                self.assertEqual([fraction(gap) for gap, _ in ends], [min(gaps), max(gaps)])
                for gap, worth in ends:
                    self.assertTrue(told.holds(worth))
                    number = fraction(worth)
                    self.assertEqual(fraction(gap),
                                     round_to(number * many, scale, way) - many * round_to(number, scale, way))

    def test_gaps_of_unlike_entries_are_no_greater(self):
        chance = random.Random(55)
        for _ in range(1200):
            told, scale, way, many = chance.choice(COLUMNS), chance.randrange(2), chance.choice(WAYS), 4
            worths = [chance.choice(worths_of(told)) for _ in range(many)]
            entries = [(worth, 1) for worth in worths]
            separate = total_of_rounded(entries, scale, way)
            low, high = [fraction(gap) for gap, _ in rounding_gap(told, scale, way, many)]
            self.assertTrue(low <= fraction(rounded_total(entries, scale, way) - separate) <= high)
            least, greatest = [fraction(gap) for gap in running_gap(told, scale, way, many)]
            self.assertTrue(least <= fraction(running_total(entries, scale, way) - separate) <= greatest)

    def test_running_gaps_of_all_entries(self):
        """All rows of few entries of those worths that are the least or the greatest with their remainder."""
        for told in COLUMNS:
            worths = [fraction(worth) for worth in worths_of(told) if worth.units_at(told.shape.scale) % 5 == 0
                      or abs(worth.units) < 12 or worth in (told.lowest(), told.highest())]
            for way in WAYS:
                for many in (1, 2, 3):
                    gaps = {}
                    for scale in (0, 1):
                        rows = {(Fraction(0), Fraction(0))}
                        for _ in range(many):
                            rows = {(round_to(total + number, scale, way), separate + round_to(number, scale, way))
                                    for total, separate in rows for number in worths}
                        gaps = [total - separate for total, separate in rows]
                        self.assertEqual([fraction(gap) for gap in running_gap(told, scale, way, many)],
                                         [min(gaps), max(gaps)], (told.shape.whole, told.shape.scale, told.mark, way, many))

    def test_gaps_up_to_the_limits(self):
        many = 10 ** 60
        self.assertEqual(running_gap(Column(60, 40), 0, "cut", many), (Worth(1 - many), Worth(many - 1)))
        self.assertEqual(running_gap(Column(10, 40), 5, "halfcut", many)[1].units_at(5), many - many // (10 ** 15 + 1) - 1)
        low, high = rounding_gap(Column(50, 50), 20, "halfup", many)
        self.assertEqual([str(low[0]), str(high[0])], ["-" + "5" + "0" * 39, str(Worth(many // 2 - many // 10 ** 30, 20))])

    def test_over_from_by_counting(self):
        chance = random.Random(56)
        seen = none = 0
        for _ in range(160):
            formula = chance.choice([A * B, A - B, A * Worth(4, 1), A * B * Worth(25, 2) - 1, A + Worth(5, 1), 0 * A,
                                     (A * B).cast(1, 0), A.rounded(9, "cut") - 3])
            columns = {"a": chance.choice([Column(1, 1), Column(0, 1), Column(1, 0, "positive"), Column(0, 1, "unsigned")]),
                       "b": chance.choice([Column(1, 0), Column(1, 0, "unsigned")]), "c": Column(1, 1)}
            shaped = Shaped(formula, columns, Dialect(30, 2))
            whole, scale, way = chance.randrange(3), chance.randrange(2), chance.choice(WAYS)
            results = [exact(formula, worths) for worths in all_worths(columns, ["a", "b"])]
            ends = min(results), max(results)
            for call, total in ((over_from, lambda number, many: round_to(number * many, scale, way)),
                                (running_over_from, lambda number, many: one_by_one([number] * many, scale, way))):
                found = call(shaped, whole, scale, way)
                most = 70 if found is None else found[0]
                counts = [many for many in range(min(most, 70) + 1)
                          if any(abs(total(number, many)) >= 10 ** whole for number in ends)]
                if found is None:
                    none += 1
                    self.assertEqual(counts, [])
                    continue
                seen += 1
                many, worths = found
                self.assertEqual(counts[0] if counts else many, many)
                self.assertTrue(bool(counts) or many > 70)
                self.assertEqual(sorted(worths), ["a", "b", "c"])
                self.assertTrue(all(columns[name].holds(worths[name]) for name in columns))
                if many <= 70:
                    self.assertGreaterEqual(abs(total(exact(formula, worths), many)), 10 ** whole)
        self.assertGreater(seen, 100)
        self.assertGreater(none, 5)

    def test_over_from_up_to_the_limits(self):
        began = time.time()
        long = {"a": Column(0, 100), "b": Column(0, 100, "unsigned")}
        shaped = Shaped(A * B, long, Dialect(200, 0))
        for way in WAYS:
            for call in (over_from, running_over_from):
                found = call(shaped, 200, 400, way)
                self.assertGreater(found[0], 10 ** 200)
                found = call(shaped, 200, 0, way)
                # Results are nearly 1 or -1 in size: only cut makes nothing of both.
                self.assertEqual(found is None, call == running_over_from and way == "cut")
        self.assertLess(time.time() - began, 10)

    def test_the_first_number_that_is_over(self):
        """By floor a least result is over sooner than a greatest one, by the mirror later."""
        shaped = Shaped(A, {"a": Column(1, 1)}, Dialect(20, 0))
        for way in WAYS:
            found, other = over_from(shaped, 2, 0, way), over_from(shaped, 2, 0, mirrored(way))
            self.assertEqual(found[0], other[0])
        self.assertEqual(over_from(shaped, 1, 0, "floor")[0], 1)
        self.assertEqual(over_from(shaped, 1, 0, "floor")[1]["a"].sign(), -1)
        self.assertEqual(over_from(shaped, 1, 0, "cut")[0], 2)

    def test_refusals(self):
        good = Column(1, 1)
        for call in (rounding_gap, running_gap):
            self.refuses_all_but(lambda value: isinstance(value, Column), lambda value: call(value, None, None, None),
                                 BadColumn, "column")
            self.refuses_all_but(is_whole, lambda value: call(good, value, None, None))
            self.refuses_all_but(is_way, lambda value: call(good, 0, value, None))
            self.refuses_all_but(lambda value: is_whole(value) and value > 0, lambda value: call(good, 0, "cut", value))
            self.assertEqual(call(good, 0, "cut", 3), call(many=3, way="cut", scale=0, column=good))
        columns = {"a": Column(1, 1), "b": Column(1, 1)}
        shaped = Shaped(A + B, columns, Dialect(20, 0))
        for call in (over_from, running_over_from):
            self.refuses_all_but(lambda value: isinstance(value, Shaped), lambda value: call(value, None, None, None))
            self.refuses_all_but(is_whole, lambda value: call(shaped, value, None, None))
            self.refuses_all_but(is_whole, lambda value: call(shaped, 0, value, None))
            self.refuses_all_but(is_way, lambda value: call(shaped, 0, 0, value))
            bad = shaped.with_formula(A.over(2) * A.over(4) + A.over(3))
            self.refused(NotPlain, {"step": 6}, call, bad, 0, 0, "cut")
            self.refused(BadValue, {"value": "up"}, call, bad, 0, 0, "up")
            self.refused(Divides, {"step": 2}, call, shaped.with_formula(A.over(2) + B.over(5)), 0, 0, "cut")
            self.refused(Divides, {"step": 2}, call, shaped.with_formula(A.over(B)), 0, 0, "cut")
            self.assertEqual(call(shaped, 2, 0, "cut")[0], call(way="cut", scale=0, whole=2, shaped=shaped)[0])


def exact(formula, worths):
    """The exact result of a formula without quotients, as a Fraction."""
    results = []
    for row in formula.rows:
        if row[0] == "column":
            results.append(fraction(worths[row[1]]))
        elif row[0] == "constant":
            results.append(Fraction(row[1], 10 ** row[2]))
        elif row[0] in ("sum", "difference", "product"):
            one, other = results[row[1]], results[row[2]]
            results.append({"sum": one + other, "difference": one - other, "product": one * other}[row[0]])
        else:
            results.append(-results[row[1]] if row[0] == "negative" else results[row[1]])
    return results[-1]


if __name__ == "__main__":
    unittest.main()

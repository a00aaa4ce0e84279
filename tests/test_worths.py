"""[3] and [41]: worths."""

import itertools
import random
import re
import unittest
from decimal import Context, Decimal
from fractions import Fraction

from figurestay.errors import BadValue, TooFine
from figurestay.worths import Worth, compare, read_figures, read_worth
from helper import Case, is_integer, is_whole, is_worth, values_of_all_kinds

EXACT = Context(prec=5000)


def fraction(worth):
    return Fraction(worth.units, 10 ** worth.scale)


def plain_text(units, scale):
    """The text by another way: that of Python's decimals."""
    if units == 0:
        return "0" + ("." + "0" * scale if scale else "")
    return format(Decimal(units).scaleb(-scale, context=EXACT), "f")


def some_worths():
    units = (0, 1, -1, 5, -5, 9, 10, -10, 99, 100, -100, 1000, -1250, 12345, -99999)
    return [Worth(unit, scale) for unit in units for scale in range(5)]


class Made(Case):

    def test_own_scale(self):
        for units in range(-1100, 1101):
            for scale in range(5):
                worth = Worth(units, scale)
                self.assertEqual(fraction(worth), Fraction(units, 10 ** scale))
                self.assertTrue(worth.scale == 0 or worth.units % 10 != 0)

    def test_zeros_behind_are_left_out_down_to_the_scale_0_only(self):
        cases = {(150, 2): (15, 1), (1500, 2): (15, 0), (15000, 2): (150, 0), (0, 0): (0, 0), (0, 400): (0, 0),
                 (-100, 1): (-10, 0), (-100, 5): (-1, 3), (700, 0): (700, 0), (10 ** 400, 400): (1, 0),
                 (10 ** 399, 400): (1, 1), (-10 ** 400, 399): (-10, 0), (3 * 10 ** 77, 100): (3, 23)}
        for (units, scale), own in cases.items():
            worth = Worth(units, scale)
            self.assertEqual((worth.units, worth.scale), own)

    def test_each_number_of_zeros(self):
        for zeros in range(0, 130):
            for scale in (0, 1, 2, 31, 63, 64, 65, 127, 128, 129):
                worth = Worth(-7 * 10 ** zeros, scale)
                gone = min(zeros, scale)
                self.assertEqual((worth.units, worth.scale), (-7 * 10 ** (zeros - gone), scale - gone))

    def test_scale_is_0_if_not_told_and_names(self):
        self.assertEqual((Worth(20).units, Worth(20).scale), (20, 0))
        worth = Worth(scale=1, units=-5)
        self.assertEqual((worth.units, worth.scale), (-5, 1))

    def test_refusals(self):
        self.refuses_all_but(is_integer, lambda value: Worth(value))
        self.refuses_all_but(is_integer, lambda value: Worth(value, "bad"))
        self.refuses_all_but(is_whole, lambda value: Worth(3, value))
        self.refused(BadValue, {"value": None}, Worth, None, -1)
        self.refused(BadValue, {"value": -1}, Worth, 1, -1)
        self.refused(BadValue, {"value": True}, Worth, True)


class Equal(Case):

    def test_by_value(self):
        self.assertTrue(Worth(15, 1) == Worth(1500, 3))
        self.assertFalse(Worth(15, 1) != Worth(1500, 3))
        self.assertTrue(Worth(15, 1) != Worth(15, 2))
        self.assertTrue(Worth(1) != Worth(-1))
        self.assertTrue(Worth(0, 3) == Worth(0))

    def test_in_order(self):
        worths = some_worths() + [Worth(10 ** 400 + 1, 400), Worth(10 ** 400 - 1, 400), Worth(-1, 400), Worth(-1, 700)]
        for one, other in itertools.product(worths, worths):
            self.assertEqual((one < other, one <= other, one > other, one >= other),
                             (fraction(one) < fraction(other), fraction(one) <= fraction(other),
                              fraction(one) > fraction(other), fraction(one) >= fraction(other)))
            self.assertEqual(compare(one, other), (one > other) - (one < other))
        for value in values_of_all_kinds():
            if not is_worth(value):
                for call in (lambda: Worth(1) < value, lambda: Worth(1) <= value, lambda: value < Worth(1)):
                    with self.assertRaises(TypeError):
                        call()

    def test_unequal_to_all_else(self):
        for value in values_of_all_kinds():
            if not is_worth(value):
                self.assertFalse(Worth(1) == value)
                self.assertTrue(Worth(1) != value)
                self.assertFalse(value == Worth(0))


class Worked(Case):

    def test_sums_differences_products(self):
        for one, other in itertools.product(some_worths(), repeat=2):
            self.assertEqual(fraction(one + other), fraction(one) + fraction(other))
            self.assertEqual(fraction(one - other), fraction(one) - fraction(other))
            self.assertEqual(fraction(one * other), fraction(one) * fraction(other))

    def test_with_integers_on_either_side(self):
        for worth in some_worths():
            for number in (-1000, -10, -1, 0, 1, 3, 20, 10 ** 400):
                self.assertEqual(fraction(worth + number), fraction(worth) + number)
                self.assertEqual(fraction(number + worth), fraction(worth) + number)
                self.assertEqual(fraction(worth - number), fraction(worth) - number)
                self.assertEqual(fraction(number - worth), number - fraction(worth))
                self.assertEqual(fraction(worth * number), fraction(worth) * number)
                self.assertEqual(fraction(number * worth), fraction(worth) * number)

    def test_results_have_their_own_scale(self):
        self.assertTrue(Worth(5, 1) + Worth(5, 1) == Worth(1))
        self.assertEqual((Worth(5, 1) * 2).scale, 0)
        self.assertEqual((Worth(125, 3) * Worth(8, 3)).scale, 3)
        self.assertEqual((Worth(15, 1) - Worth(15, 1)).scale, 0)
        self.assertEqual((Worth(999, 3) + Worth(1, 3)).units, 1)

    def test_at_any_size(self):
        chance = random.Random(5)
        for _ in range(60):
            one, other = [Worth(chance.randrange(-10 ** 400, 10 ** 400), chance.randrange(401)) for _ in range(2)]
            self.assertEqual(fraction(one + other), fraction(one) + fraction(other))
            self.assertEqual(fraction(one - other), fraction(one) - fraction(other))
            self.assertEqual(fraction(one * other), fraction(one) * fraction(other))
            self.assertEqual(compare(one, other), (fraction(one) > fraction(other)) - (fraction(one) < fraction(other)))
        self.assertEqual((Worth(1, 400) * Worth(1, 400)).scale, 800)

    def test_signs_and_sizes(self):
        for worth in some_worths():
            self.assertEqual(fraction(-worth), -fraction(worth))
            self.assertEqual(fraction(abs(worth)), abs(fraction(worth)))
            self.assertEqual(worth.sign(), (worth.units > 0) - (worth.units < 0))

    def test_nothing_that_is_passed_changes(self):
        one, other = Worth(15, 1), Worth(-7, 2)
        one + other, one - other, one * other, -one, abs(other), 3 * one, 2 - other
        self.assertEqual((one.units, one.scale, other.units, other.scale), (15, 1, -7, 2))

    def test_refusals_on_either_side(self):
        calls = (lambda value: Worth(1) + value, lambda value: value + Worth(1), lambda value: Worth(1) - value,
                 lambda value: value - Worth(1), lambda value: Worth(1) * value, lambda value: value * Worth(1))
        for number, call in enumerate(calls):
            # A formula ahead of a worth is no refusal; it is the formula that adds.
            formula_ahead = number % 2 == 1
            self.refuses_all_but(
                lambda value: is_integer(value) or is_worth(value) or (formula_ahead and hasattr(value, "rows")), call)


class Compared(Case):

    def test_compare(self):
        for one, other in itertools.product(some_worths(), repeat=2):
            wanted = (fraction(one) > fraction(other)) - (fraction(one) < fraction(other))
            self.assertEqual(compare(one, other), wanted)
        self.assertEqual(compare(other=Worth(2), one=Worth(1)), -1)

    def test_refusals(self):
        self.refuses_all_but(is_worth, lambda value: compare(value, Worth(1)))
        self.refuses_all_but(is_worth, lambda value: compare(Worth(1), value))
        self.refused(BadValue, {"value": 1}, compare, 1, 2)
        self.refused(BadValue, {"value": 2}, compare, Worth(1), 2)


class Texts(Case):

    def test_texts_of_the_document(self):
        self.assertEqual([Worth(-5, 2).text(scale) for scale in (2, 3)], ["-0.05", "-0.050"])
        self.assertEqual([Worth(0).text(scale) for scale in (0, 1, 2)], ["0", "0.0", "0.00"])

    def test_texts_at_each_scale(self):
        for units in list(range(-130, 131)) + [999, -1000, 12345, -100000]:
            for scale in range(5):
                worth = Worth(units, scale)
                self.assertEqual(str(worth), plain_text(worth.units, worth.scale))
                for wider in range(worth.scale, worth.scale + 4):
                    more = worth.units * 10 ** (wider - worth.scale)
                    self.assertEqual(worth.units_at(wider), more)
                    self.assertEqual(worth.text(wider), plain_text(more, wider))

    def test_too_fine_with_the_own_scale(self):
        for name in ("text", "units_at"):
            for scale in (0, 1, 2):
                self.refused(TooFine, {"scale": 3}, getattr(Worth(-1250, 4), name), scale)
            self.refused(TooFine, {"scale": 1}, getattr(Worth(150, 2), name), scale=0)
        self.assertEqual(Worth(150, 2).units_at(scale=1), 15)
        self.assertEqual(Worth(150, 2).text(scale=1), "1.5")

    def test_long_texts(self):
        for size in (399, 400, 401, 600, 601, 4299, 4300, 4301, 9000, 20001):
            worth = Worth(10 ** size - 1)
            self.assertEqual(str(worth), "9" * size)
            self.assertEqual(str(-Worth(10 ** size)), "-1" + "0" * size)
            self.assertEqual(worth.text(3), "9" * size + ".000")
            self.assertEqual(str(Worth(-1, size)), "-0." + "0" * (size - 1) + "1")
            self.assertEqual(Worth(7).text(size), "7." + "0" * size)
        self.assertEqual(str(Worth(12, 1) * Worth(10 ** 6000) + Worth(34, 5000)),
                         "12" + "0" * 5999 + "." + "0" * 4998 + "34")

    def test_refusals(self):
        self.refuses_all_but(is_whole, lambda value: Worth(1).text(value))
        self.refuses_all_but(is_whole, lambda value: Worth(1).units_at(value))
        self.refused(BadValue, {"value": -1}, Worth(1, 5).text, -1)
        self.refused(BadValue, {"value": False}, Worth(1, 5).units_at, False)


def is_text(value):
    if not isinstance(value, str) or not re.fullmatch("-?(0|[1-9][0-9]*)([.][0-9]+)?", value) or len(value) > 400:
        return False
    return not value.startswith("-") or bool(re.search("[1-9]", value))


class Read(Case):

    def test_all_short_texts(self):
        seen = 0
        for size in range(6):
            for letters in itertools.product("-01.5 +", repeat=size):
                text = "".join(letters)
                if is_text(text):
                    seen += 1
                    units, scale = read_figures(text)
                    self.assertIs(type(units), int)
                    self.assertEqual(Worth(units, scale).text(scale), text)
                    self.assertEqual(scale, len(text.partition(".")[2]))
                    self.assertTrue(read_worth(text) == Worth(units, scale))
                else:
                    self.refused(BadValue, {"value": text}, read_figures, text)
                    self.refused(BadValue, {"value": text}, read_worth, text)
        self.assertGreater(seen, 200)

    def test_other_texts_that_are_none(self):
        for text in ("\u0661", "1\u0662", "\u00b2", "1\n", "\t1", "1_0", "1,5", "1e5", "0x1", "--1", "-", "-.5",
                     "1.-5", "1..5", "1.5.5", "inf", "nan", "1\x00", "\uff11", "-0.000", "-00.1", "00", "1 ", "one"):
            self.refused(BadValue, {"value": text}, read_figures, text)
            self.refused(BadValue, {"value": text}, read_worth, text)

    def test_texts_read_back(self):
        for units in (0, 1, -1, 10, -10, 105, -99, 5000):
            for scale in range(6):
                worth = Worth(units, scale)
                for wider in range(worth.scale, 8):
                    figures = (worth.units_at(wider), wider)
                    self.assertEqual(read_figures(worth.text(wider)), figures)
                    self.assertTrue(read_worth(worth.text(wider)) == worth)

    def test_texts_of_399_to_401_characters(self):
        for text in ("1" * 399, "9" * 400, "-" + "2" * 399, "0." + "0" * 398, "-0." + "0" * 396 + "1",
                     "1." + "0" * 397, "1" * 200 + "." + "5" * 199):
            self.assertIn(len(text), (399, 400))
            units, scale = read_figures(text)
            self.assertEqual(Worth(units, scale).text(scale), text)
            self.assertEqual(read_worth(text).text(scale), text)
        for text in ("1" * 401, "-" + "1" * 400, "0." + "0" * 399, "1." + "0" * 399, "1" * 5000):
            self.refused(BadValue, {"value": text}, read_figures, text)
            self.refused(BadValue, {"value": text}, read_worth, text)

    def test_refusals_and_names(self):
        self.refuses_all_but(is_text, read_figures)
        self.refuses_all_but(is_text, read_worth)
        self.assertEqual(read_figures(text="-1.50"), (-150, 2))
        self.assertTrue(read_worth(text="-1.50") == Worth(-15, 1))


if __name__ == "__main__":
    unittest.main()

"""[4], [5] and [42]: the nine ways."""

import itertools
import math
import random
import unittest
from fractions import Fraction

from figurestay.errors import BadValue, NoDivisor
from figurestay.ways import WAYS, divided, mirrored, rounded, rounded_quotient, shown_as
from figurestay.worths import Worth
from helper import Case, is_integer, is_whole, is_worth

ALL = ("floor", "ceiling", "cut", "away", "halfup", "halfdown", "halfeven", "halfaway", "halfcut")


def is_way(value):
    return isinstance(value, str) and value in ALL


def by_the_words(number, way):
    """A Fraction rounded to an integer as the words of [4] say."""
    low, high = math.floor(number), math.ceil(number)
    if low == high:
        return low
    nearer_to_0, farther = sorted((low, high), key=abs)
    if way in ("floor", "ceiling", "cut", "away"):
        return {"floor": low, "ceiling": high, "cut": nearer_to_0, "away": farther}[way]
    if number - low != high - number:
        return low if number - low < high - number else high
    even = low if low % 2 == 0 else high
    return {"halfup": high, "halfdown": low, "halfeven": even, "halfaway": farther, "halfcut": nearer_to_0}[way]


def fraction(worth):
    return Fraction(worth.units, 10 ** worth.scale)


class Ways(Case):

    def test_order(self):
        self.assertEqual(WAYS, ALL)
        self.assertIs(type(WAYS), tuple)

    def test_mirrors(self):
        for way in ALL:
            for number in range(-60, 61):
                here = by_the_words(Fraction(number, 20), way)
                self.assertEqual(-here, by_the_words(Fraction(-number, 20), mirrored(way)))
        self.assertEqual([mirrored(way) for way in ("floor", "ceiling", "halfup", "halfdown")],
                         ["ceiling", "floor", "halfdown", "halfup"])
        self.assertEqual([mirrored(way=way) for way in ("cut", "away", "halfeven", "halfaway", "halfcut")],
                         ["cut", "away", "halfeven", "halfaway", "halfcut"])

    def test_mirrored_refuses(self):
        self.refuses_all_but(is_way, mirrored)
        for value in ("", "Floor", "floor ", "half", "even", "up"):
            self.refused(BadValue, {"value": value}, mirrored, value)


class Divided(Case):

    def test_against_the_words(self):
        for way in ALL:
            for divisor in list(range(1, 13)) + [100]:
                for number in range(-130, 131):
                    wanted = by_the_words(Fraction(number, divisor), way)
                    self.assertEqual(divided(number, divisor, way), wanted, (number, divisor, way))

    def test_great_numbers(self):
        for way in ALL:
            for number in (10 ** 400 + 5, -10 ** 400 - 5, 10 ** 400 - 1, 5 * 10 ** 399, -15 * 10 ** 399):
                for divisor in (10, 10 ** 400, 3 * 10 ** 200):
                    wanted = by_the_words(Fraction(number, divisor), way)
                    self.assertEqual(divided(number, divisor, way), wanted)

    def test_names_and_refusals(self):
        self.assertEqual(divided(way="halfeven", divisor=10, number=25), 2)
        self.refuses_all_but(is_integer, lambda value: divided(value, 3, "cut"))
        self.refuses_all_but(is_integer, lambda value: divided(value, 0, "bad"))
        self.refuses_all_but(lambda value: is_whole(value) and value > 0, lambda value: divided(7, value, "cut"))
        self.refuses_all_but(lambda value: is_whole(value) and value > 0, lambda value: divided(7, value, None))
        self.refuses_all_but(is_way, lambda value: divided(7, 2, value))


class Rounded(Case):

    def test_against_the_words(self):
        for way in ALL:
            for units in range(-260, 261):
                for scale in (0, 1, 2, 3):
                    worth = Worth(units, 2)
                    wanted = Fraction(by_the_words(fraction(worth) * 10 ** scale, way), 10 ** scale)
                    self.assertEqual(fraction(rounded(worth, scale, way)), wanted)

    def test_nines_and_the_own_scale(self):
        self.assertTrue(rounded(Worth(999, 2), 1, "ceiling") == Worth(10))
        self.assertTrue(rounded(Worth(-9995, 3), 2, "halfaway") == Worth(-10))
        self.assertTrue(rounded(Worth(5, 3), 7, "floor") == Worth(5, 3))
        self.assertTrue(rounded(Worth(0), 0, "away") == Worth(0))
        self.assertTrue(rounded(Worth(-1, 400), 0, "away") == Worth(-1))
        self.assertTrue(rounded(Worth(-1, 400), 0, "halfaway") == Worth(0))

    def test_monotone(self):
        for way in ALL:
            results = [rounded(Worth(units, 2), 1, way).units_at(1) for units in range(-60, 61)]
            self.assertEqual(results, sorted(results))

    def test_names_and_refusals(self):
        self.assertTrue(rounded(way="cut", scale=0, worth=Worth(-15, 1)) == Worth(-1))
        self.refuses_all_but(is_worth, lambda value: rounded(value, 1, "cut"))
        self.refuses_all_but(is_worth, lambda value: rounded(value, -1, "bad"))
        self.refuses_all_but(is_whole, lambda value: rounded(Worth(1), value, "bad"))
        self.refuses_all_but(is_way, lambda value: rounded(Worth(1), 0, value))


class Quotients(Case):

    def test_against_the_words(self):
        units = (-100, -37, -15, -3, -1, 0, 1, 2, 7, 25, 60)
        for one, other in itertools.product(units, repeat=2):
            if other == 0:
                continue
            for scales in itertools.product((0, 1, 3), (0, 2), (0, 1, 4)):
                one_worth, other_worth, scale = Worth(one, scales[0]), Worth(other, scales[1]), scales[2]
                exact = fraction(one_worth) / fraction(other_worth) * 10 ** scale
                for way in ALL:
                    result = rounded_quotient(one_worth, other_worth, scale, way)
                    self.assertEqual(fraction(result), Fraction(by_the_words(exact, way), 10 ** scale))

    def test_halves_on_both_sides_of_0(self):
        for sign in (1, -1):
            found = [rounded_quotient(Worth(sign * 5), Worth(-2), 0, way).units for way in ALL]
            self.assertEqual(found, [by_the_words(Fraction(-sign * 5, 2), way) for way in ALL])

    def test_far_scales(self):
        chance = random.Random(8)
        for _ in range(100):
            one, other = [Worth(chance.randrange(1, 10 ** 400), chance.randrange(401)) for _ in range(2)]
            scale, way = chance.randrange(401), chance.choice(ALL)
            exact = fraction(one) / fraction(other) * 10 ** scale
            result = rounded_quotient(one, other, scale, way)
            self.assertEqual(fraction(result), Fraction(by_the_words(exact, way), 10 ** scale))

    def test_no_divisor_behind_all_bad_values(self):
        self.refused(NoDivisor, {}, rounded_quotient, Worth(1), Worth(0), 2, "cut")
        self.refused(NoDivisor, {}, rounded_quotient, Worth(0), Worth(0), 0, "floor")
        self.refused(BadValue, {"value": "bad"}, rounded_quotient, Worth(1), Worth(0), 2, "bad")
        self.refused(BadValue, {"value": -1}, rounded_quotient, Worth(1), Worth(0), -1, "bad")
        self.refused(BadValue, {"value": 0}, rounded_quotient, Worth(1), 0, -1, "bad")
        self.refused(BadValue, {"value": None}, rounded_quotient, None, 0, -1, "bad")

    def test_names_and_refusals(self):
        result = rounded_quotient(way="cut", scale=1, other=Worth(3), one=Worth(2))
        self.assertTrue(result == Worth(6, 1))
        self.refuses_all_but(is_worth, lambda value: rounded_quotient(value, Worth(0), 1, "cut"))
        self.refuses_all_but(is_worth, lambda value: rounded_quotient(Worth(1), value, 1, "cut"))
        self.refuses_all_but(is_whole, lambda value: rounded_quotient(Worth(1), Worth(0), value, "cut"))
        self.refuses_all_but(is_way, lambda value: rounded_quotient(Worth(1), Worth(0), 1, value))


class Shown(Case):

    def test_against_all_worths(self):
        for way, scale, places in itertools.product(ALL, (0, 1, 2), (0, 1, 2, 3)):
            shown = {}
            for units in range(-6 * 10 ** places, 6 * 10 ** places + 1):
                result = Fraction(by_the_words(Fraction(units, 10 ** places) * 10 ** scale, way), 10 ** scale)
                shown.setdefault(result, []).append(Fraction(units, 10 ** places))
            for worth_scale in (0, 1, 2, 3):
                for units in range(-25, 26):
                    worth = Worth(units, worth_scale)
                    if abs(fraction(worth)) > 3:
                        continue
                    found = shown_as(worth, scale, places, way)
                    wanted = shown.get(fraction(worth))
                    if wanted is None:
                        self.assertIsNone(found, (units, worth_scale, scale, places, way))
                    else:
                        self.assertIs(type(found), tuple)
                        self.assertEqual([fraction(end) for end in found], [wanted[0], wanted[-1]])

    def test_of_the_document(self):
        ends = [[str(end) for end in shown_as(Worth(units), 0, 1, "halfeven")] for units in (1, 0)]
        self.assertEqual(ends, [["0.6", "1.4"], ["-0.5", "0.5"]])

    def test_a_worth_without_the_scale(self):
        for way in ALL:
            self.assertIsNone(shown_as(Worth(15, 2), 1, 3, way))
            self.assertIsNone(shown_as(Worth(15, 2), 1, 2, way))
            self.assertIsNone(shown_as(Worth(15, 2), 2, 1, way))
            self.assertTrue(shown_as(Worth(15, 2), 3, 2, way) == (Worth(15, 2), Worth(15, 2)))

    def test_far_places(self):
        low, high = shown_as(Worth(-7), 0, 400, "halfup")
        self.assertTrue(low == Worth(-75, 1) and high == Worth(-65, 1) - Worth(1, 400))

    def test_names_and_refusals(self):
        self.assertIsNone(shown_as(way="cut", places=1, scale=0, worth=Worth(5, 1)))
        self.refuses_all_but(is_worth, lambda value: shown_as(value, -1, 1, "cut"))
        self.refuses_all_but(is_whole, lambda value: shown_as(Worth(1, 5), value, None, "cut"))
        self.refuses_all_but(is_whole, lambda value: shown_as(Worth(1, 5), 0, value, "bad"))
        self.refuses_all_but(is_way, lambda value: shown_as(Worth(1, 5), 0, 1, value))


if __name__ == "__main__":
    unittest.main()

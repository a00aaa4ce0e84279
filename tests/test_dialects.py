"""[7], [8] and [44]: dialects."""

import itertools
import unittest

from figurestay.dialects import Dialect
from figurestay.errors import BadValue
from figurestay.shapes import Shape
from figurestay.ways import WAYS, rounded_quotient
from figurestay.worths import Worth
from helper import Case, is_whole, values_of_all_kinds

WORDS = ("sum", "difference", "product", "quotient")


def figures(shape):
    return shape.whole, shape.scale


def all_shapes(most):
    return [(whole, scale) for whole in range(most + 1) for scale in range(most + 1) if whole + scale > 0]


def uncut_by_the_words(word, one, other, extra, places):
    (i, s), (j, t) = one, other
    return {
        "sum": (1 + max(i, j), max(s, t)),
        "difference": (1 + max(i, j), max(s, t)),
        "product": (i + j + extra, s + t),
        "quotient": (i + t, max(places, s + j + 1)),
    }[word]


def cut_by_the_words(shape, cap, kept):
    whole, scale = shape
    if whole + scale <= cap:
        return shape
    new = max(cap - whole, min(scale, kept))
    return cap - new, new


class Made(Case):

    def test_what_it_has_if_it_is_not_told(self):
        dialect = Dialect(6, 2)
        self.assertEqual((dialect.cap, dialect.kept), (6, 2))
        self.assertEqual((dialect.extra, dialect.places, dialect.way), (0, 0, "halfup"))

    def test_what_it_is_told(self):
        dialect = Dialect(kept=0, cap=200, way="cut", places=400, extra=1)
        self.assertEqual((dialect.cap, dialect.kept), (200, 0))
        self.assertEqual((dialect.extra, dialect.places, dialect.way), (1, 400, "cut"))
        for way in WAYS:
            self.assertEqual(Dialect(1, 1, way=way).way, way)

    def test_behind_the_star_by_name_only(self):
        with self.assertRaises(TypeError):
            Dialect(6, 2, 1)

    def test_refusals(self):
        self.refuses_all_but(lambda value: is_whole(value) and value > 0, lambda value: Dialect(value, 0))
        self.refuses_all_but(lambda value: is_whole(value) and value <= 5, lambda value: Dialect(5, value))
        self.refuses_all_but(lambda value: is_whole(value) and value < 2, lambda value: Dialect(5, 2, extra=value))
        self.refuses_all_but(is_whole, lambda value: Dialect(5, 2, places=value))
        self.refuses_all_but(lambda value: isinstance(value, str) and value in WAYS,
                             lambda value: Dialect(5, 2, way=value))
        self.refused(BadValue, {"value": 0}, Dialect, 0, 0)
        self.refused(BadValue, {"value": 7}, Dialect, 6, 7)
        self.refused(BadValue, {"value": 2}, Dialect, 6, 6, extra=2)

    def test_refusals_in_order(self):
        bad = {"cap": 0, "kept": -1, "extra": True, "places": None, "way": "up"}
        good = {"cap": 5, "kept": 5, "extra": 1, "places": 3, "way": "cut"}
        for name in ("cap", "kept", "extra", "places", "way"):
            self.refused(BadValue, {"value": bad[name]}, Dialect, **dict(reversed(list(bad.items()))))
            bad[name] = good[name]
        self.assertTrue(Dialect(**bad) == Dialect(**good))

    def test_equal_by_value(self):
        told = list(itertools.product((5, 6), (0, 2), (0, 1), (0, 3), ("cut", "halfup")))
        dialects = [Dialect(one[0], one[1], extra=one[2], places=one[3], way=one[4]) for one in told]
        for one, other in itertools.product(range(len(told)), repeat=2):
            self.assertEqual(dialects[one] == dialects[other], one == other)
            self.assertEqual(dialects[one] != dialects[other], one != other)
        self.assertTrue(Dialect(5, 2) == Dialect(5, 2, extra=0, places=0, way="halfup"))
        for value in values_of_all_kinds():
            if not isinstance(value, Dialect):
                self.assertFalse(Dialect(6, 2) == value)


class ShapesOfResults(Case):

    def test_uncut(self):
        for word, one, other in itertools.product(WORDS, all_shapes(3), all_shapes(3)):
            for extra, places in itertools.product((0, 1), (0, 2, 9)):
                dialect = Dialect(1, 0, extra=extra, places=places)
                found = dialect.uncut(word, Shape(*one), Shape(*other))
                self.assertEqual(figures(found), uncut_by_the_words(word, one, other, extra, places))

    def test_cut(self):
        for cap in range(1, 9):
            for kept in range(cap + 1):
                for shape in all_shapes(9):
                    found = Dialect(cap, kept).cut(Shape(*shape))
                    self.assertEqual(figures(found), cut_by_the_words(shape, cap, kept))
                    self.assertEqual(found.width, min(cap, sum(shape)))

    def test_places_are_given_up_first_but_not_below_the_kept_ones(self):
        self.assertEqual(figures(Dialect(8, 2).cut(Shape(6, 2))), (6, 2))
        self.assertEqual(figures(Dialect(8, 2).cut(Shape(6, 3))), (6, 2))
        self.assertEqual(figures(Dialect(8, 2).cut(Shape(7, 2))), (6, 2))
        self.assertEqual(figures(Dialect(8, 2).cut(Shape(7, 1))), (7, 1))
        self.assertEqual(figures(Dialect(8, 2).cut(Shape(8, 1))), (7, 1))
        self.assertEqual(figures(Dialect(8, 0).cut(Shape(7, 9))), (7, 1))
        self.assertEqual(figures(Dialect(8, 8).cut(Shape(1, 9))), (0, 8))
        self.assertEqual(figures(Dialect(8, 0).cut(Shape(9, 0))), (8, 0))
        self.assertEqual(figures(Dialect(1, 1).cut(Shape(1, 1))), (0, 1))
        self.assertEqual(figures(Dialect(1, 0).cut(Shape(0, 5))), (0, 1))

    def test_both(self):
        for word, one, other in itertools.product(WORDS, all_shapes(2), all_shapes(2)):
            for cap, kept, extra in ((1, 0, 0), (3, 2, 1), (4, 0, 0), (4, 4, 0), (30, 6, 1)):
                dialect = Dialect(cap, kept, extra=extra, places=4)
                uncut = uncut_by_the_words(word, one, other, extra, 4)
                found = dialect.shape_of(word, Shape(*one), Shape(*other))
                self.assertEqual(figures(found), cut_by_the_words(uncut, cap, kept))

    def test_names_and_arguments_that_stay(self):
        dialect, one, other = Dialect(4, 0), Shape(2, 2), Shape(1, 0)
        self.assertEqual(figures(dialect.uncut(other=other, one=one, word="quotient")), (2, 4))
        self.assertEqual(figures(dialect.shape_of(other=other, one=one, word="quotient")), (2, 2))
        self.assertEqual(figures(dialect.cut(shape=Shape(3, 3))), (3, 1))
        self.assertEqual((figures(one), figures(other)), ((2, 2), (1, 0)))

    def test_refusals(self):
        dialect, shape = Dialect(6, 2), Shape(1, 1)
        self.refuses_all_but(lambda value: isinstance(value, Shape), dialect.cut)
        for call in (dialect.uncut, dialect.shape_of):
            self.refuses_all_but(lambda value: isinstance(value, str) and value in WORDS,
                                 lambda value: call(value, None, None))
            self.refuses_all_but(lambda value: isinstance(value, Shape), lambda value: call("sum", value, None))
            self.refuses_all_but(lambda value: isinstance(value, Shape), lambda value: call("sum", shape, value))
            for word in ("negative", "Sum", "", "cast", "round"):
                self.refused(BadValue, {"value": word}, call, word, shape, shape)


class WideEnough(unittest.TestCase):
    """[8]: the uncut shapes hold all results."""

    def test_results_fit(self):
        for one, other in itertools.product(all_shapes(2), repeat=2):
            one, other = Shape(*one), Shape(*other)
            dialect = Dialect(1, 0, places=0)
            great, small = one.greatest(), other.greatest()
            for sign in (1, -1):
                self.assertTrue(dialect.uncut("sum", one, other).fits(great * sign + small * sign))
                self.assertTrue(dialect.uncut("difference", one, other).fits(great * sign - small * -sign))
                self.assertTrue(dialect.uncut("product", one, other).fits(great * sign * small))
                unit = Worth(1, other.scale)
                shape = dialect.uncut("quotient", one, other)
                for way in WAYS:
                    self.assertTrue(shape.fits(rounded_quotient(great * sign, unit, shape.scale, way)))
                    self.assertTrue(shape.fits(rounded_quotient(great * sign, small, shape.scale, way)))


if __name__ == "__main__":
    unittest.main()

"""[6] and [43]: shapes and columns."""

import itertools
import unittest

from figurestay.errors import BadValue, NoFigures
from figurestay.shapes import Column, Shape, least_shape
from figurestay.worths import Worth, compare
from helper import Case, is_whole, is_worth, values_of_all_kinds

MARKS = ("signed", "unsigned", "positive")


def all_shapes():
    return [(whole, scale) for whole in range(4) for scale in range(4) if whole + scale > 0]


def worths_about():
    """Worths of all scales up to 4 about each power of ten, on both sides of 0."""
    units = [0, 1, 2, 5]
    for places in range(1, 8):
        units.extend([10 ** places - 1, 10 ** places, 10 ** places + 1])
    return [Worth(sign * unit, scale) for sign in (1, -1) for unit in units for scale in range(5)]


class Shapes(Case):

    def test_attributes_width_and_names(self):
        for whole, scale in all_shapes():
            shape = Shape(whole, scale)
            self.assertEqual((shape.whole, shape.scale, shape.width), (whole, scale, whole + scale))
        self.assertTrue(Shape(scale=2, whole=0) == Shape(0, 2))

    def test_no_figures(self):
        self.refused(NoFigures, {}, Shape, 0, 0)
        self.refused(NoFigures, {}, Shape, whole=0, scale=0)

    def test_refusals(self):
        self.refuses_all_but(is_whole, lambda value: Shape(value, 0))
        self.refuses_all_but(is_whole, lambda value: Shape(value, "bad"))
        self.refuses_all_but(is_whole, lambda value: Shape(0, value))
        self.refused(BadValue, {"value": False}, Shape, False, False)

    def test_equal_by_value(self):
        for one, other in itertools.product(all_shapes(), repeat=2):
            self.assertEqual(Shape(*one) == Shape(*other), one == other)
            self.assertEqual(Shape(*one) != Shape(*other), one != other)
        for value in values_of_all_kinds():
            if not isinstance(value, Shape):
                self.assertFalse(Shape(2, 1) == value)

    def test_fits(self):
        for (whole, scale), worth in itertools.product(all_shapes(), worths_about()):
            wanted = worth.scale <= scale and abs(worth.units) < 10 ** (whole + worth.scale)
            self.assertIs(Shape(whole, scale).fits(worth), wanted)
        self.assertTrue(Shape(0, 2).fits(worth=Worth(99, 2)))
        self.assertFalse(Shape(0, 2).fits(Worth(1)))
        self.assertTrue(Shape(0, 2).fits(Worth(0)))
        self.refuses_all_but(is_worth, lambda value: Shape(3, 1).fits(value))

    def test_greatest(self):
        for whole, scale in all_shapes():
            shape = Shape(whole, scale)
            greatest = shape.greatest()
            self.assertTrue(shape.fits(greatest))
            self.assertFalse(shape.fits(greatest + Worth(1, scale)))
        self.assertEqual(str(Shape(0, 3).greatest()), "0.999")
        self.assertEqual(str(Shape(3, 0).greatest()), "999")
        self.assertEqual(str(Shape(60, 40).greatest()), "9" * 60 + "." + "9" * 40)


class LeastShapes(Case):

    def test_against_all_shapes(self):
        worths = worths_about()
        for first in range(0, len(worths), 3):
            some = worths[first:first + 1 + first % 5]
            shape = least_shape(some)
            self.assertTrue(all(shape.fits(worth) for worth in some))
            if all(worth.sign() == 0 for worth in some):
                self.assertTrue(shape == Shape(1, 0))
                continue
            if shape.scale > 0:
                self.assertFalse(all(worth.scale < shape.scale for worth in some))
            if shape.whole > 0:
                below = Worth(10 ** (shape.whole - 1))
                self.assertFalse(all(compare(abs(worth), below) < 0 for worth in some))

    def test_edges(self):
        cases = [([], (1, 0)), ((), (1, 0)), ([Worth(0), Worth(0, 3)], (1, 0)), ([Worth(1, 2)], (0, 2)),
                 ([Worth(9)], (1, 0)), ([Worth(10)], (2, 0)), ([Worth(-10)], (2, 0)), ([Worth(1), Worth(1, 3)], (1, 3)),
                 ((Worth(-999, 1), Worth(0)), (2, 1)), ([Worth(10 ** 399, 0)], (400, 0)), ([Worth(1, 400)], (0, 400)),
                 ([Worth(10 ** 5000)], (5001, 0))]
        for worths, (whole, scale) in cases:
            self.assertTrue(least_shape(worths) == Shape(whole, scale), worths)

    def test_the_list_stays(self):
        worths = [Worth(5), Worth(1, 2)]
        least_shape(worths=worths)
        self.assertTrue(len(worths) == 2 and worths[0] == Worth(5) and worths[1] == Worth(1, 2))

    def test_refusals(self):
        self.refuses_all_but(is_worth, lambda value: least_shape([Worth(1), value, None]))
        self.refuses_all_but(is_worth, lambda value: least_shape((value, "bad")))
        for value in (None, True, 5, "", "abc", {}, {"a": Worth(1)}, Worth(1), Shape(1, 0)):
            self.refused(BadValue, {"value": value}, least_shape, value)


class Columns(Case):

    def test_attributes_and_names(self):
        column = Column(2, 1)
        self.assertTrue(column.shape == Shape(2, 1))
        self.assertEqual(column.mark, "signed")
        self.assertEqual([Column(1, 0, mark).mark for mark in MARKS], list(MARKS))
        self.assertTrue(Column(mark="positive", scale=1, whole=0) == Column(0, 1, "positive"))

    def test_refusals_in_order(self):
        self.refused(NoFigures, {}, Column, 0, 0)
        self.refused(NoFigures, {}, Column, 0, 0, "positive")
        self.refused(BadValue, {"value": "bad"}, Column, 0, 0, "bad")
        self.refused(BadValue, {"value": -1}, Column, 0, -1, "bad")
        self.refused(BadValue, {"value": None}, Column, None, -1, "bad")
        self.refuses_all_but(is_whole, lambda value: Column(value, 0))
        self.refuses_all_but(is_whole, lambda value: Column(0, value, 5))
        self.refuses_all_but(lambda value: isinstance(value, str) and value in MARKS, lambda value: Column(0, 0, value))

    def test_equal_by_value(self):
        told = [(whole, scale, mark) for whole, scale in all_shapes()[:6] for mark in MARKS]
        for one, other in itertools.product(told, repeat=2):
            self.assertEqual(Column(*one) == Column(*other), one == other)
            self.assertEqual(Column(*one) != Column(*other), one != other)
        for value in values_of_all_kinds():
            if not isinstance(value, Column):
                self.assertFalse(Column(2, 1) == value)
        self.assertFalse(Shape(2, 1) == Column(2, 1))

    def test_holds(self):
        for (whole, scale), mark, worth in itertools.product(all_shapes(), MARKS, worths_about()):
            wanted = Shape(whole, scale).fits(worth)
            if mark == "unsigned":
                wanted = wanted and worth.units >= 0
            if mark == "positive":
                wanted = wanted and worth.units > 0
            self.assertIs(Column(whole, scale, mark).holds(worth), wanted)
        self.assertFalse(Column(1, 0, "positive").holds(worth=Worth(0)))
        for mark in MARKS:
            self.refuses_all_but(is_worth, lambda value: Column(3, 1, mark).holds(value))

    def test_ends_and_small_worths(self):
        for (whole, scale), mark in itertools.product(all_shapes(), MARKS):
            column, unit = Column(whole, scale, mark), Worth(1, scale)
            self.assertTrue(column.holds(column.lowest()) and not column.holds(column.lowest() - unit))
            self.assertTrue(column.holds(column.highest()) and not column.holds(column.highest() + unit))
            small = column.small()
            self.assertIs(type(small), tuple)
            wanted = (unit, unit * 2) if mark == "positive" else (Worth(0), unit)
            self.assertTrue(small == wanted)
            self.assertTrue(all(column.holds(worth) for worth in small))


if __name__ == "__main__":
    unittest.main()

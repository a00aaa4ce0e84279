"""The integer programs behind extremes, strays and partings, against all integer points of small ones."""

import itertools
import random
import unittest
from fractions import Fraction

from figurestay.lattices import short_vectors
from figurestay.peaks import any_point, smaller_regions, view_of
from figurestay.regions import (
    in_short_vectors, layer, region_of, stretch, tidied, with_even, with_line
)
from figurestay.tables import Line, first_table, top_of


def size(form, point):
    return sum(number * factor for number, factor in zip(form, point))


def chance_program(chance):
    """A goal and lines: some variables between ends, and what is dropped from sums of them; and all points."""
    many, drops, places = chance.choice([1, 2, 2, 3]), chance.choice([1, 2, 3, 4]), chance.choice([1, 1, 2])
    reach, most, one = {1: 90, 2: 12, 3: 5}[many], chance.choice([3, 12, 99]), 10 ** places
    low, high = chance.choice([(-one // 2, one // 2 - 1), (0, one - 1)])
    forms = [[chance.randint(-most, most) for _ in range(many)] for _ in range(drops)]
    lines = [Line([int(place == other) for other in range(many + drops)], -reach, reach) for place in range(many)]
    for at, form in enumerate(forms):
        lines.append(Line(form + [-one if at == other else 0 for other in range(drops)], low, high))
    points = []
    for point in itertools.product(range(-reach, reach + 1), repeat=many):
        sums = [sum(number * factor for number, factor in zip(point, form)) for form in forms]
        points.append(list(point) + [(total - low) // one for total in sums])
    goal = [chance.randint(-5, 5) for _ in range(many + drops)]
    return goal, lines, points


def chance_region(chance):
    """A Region of a few variables, and all its points."""
    many = chance.randint(1, 3)
    lines = []
    for place in range(many):
        low = chance.randint(-4, 2)
        lines.append(Line([int(place == other) for other in range(many)], low, low + chance.randint(0, 5)))
    for _ in range(chance.randint(0, 3)):
        low = chance.choice([None, chance.randint(-12, 3)])
        high = chance.choice([None, chance.randint(-3, 12)])
        lines.append(Line([chance.randint(-4, 4) for _ in range(many)], low, high))
    points = [list(point) for point in itertools.product(range(-4, 8), repeat=many)
              if all(line.holds(size(line.form, point)) for line in lines)]
    return region_of(lines, many), points


def points_of(region, reach=12):
    """All points of a Region, by trying so many of each vector."""
    if region is None:
        return []
    tried = itertools.product(range(-reach, reach + 1), repeat=len(region.vectors))
    return sorted(region.point(numbers) for numbers in tried if region.holds(numbers))


class Peaks(unittest.TestCase):

    def test_all_points_of_small_programs(self):
        chance = random.Random(5)
        for _ in range(250):
            goal, lines, points = chance_program(chance)
            heights = [size(goal, point) for point in points]
            whole = region_of(lines, len(goal))
            for low, high in ((max(heights), None), (max(heights) + 1, None), (None, min(heights)),
                              (None, min(heights) - 1), (max(heights) - 20, max(heights) - 1)):
                bounds = Line(goal, low, high)
                found = any_point(with_line(whole, bounds))
                if any(bounds.holds(height) for height in heights):
                    self.assertIn(found, points)
                    self.assertTrue(bounds.holds(size(goal, found)))
                else:
                    self.assertIsNone(found)

    def test_smaller_regions_have_all_points_once(self):
        chance = random.Random(8)
        for _ in range(80):
            region, points = chance_region(chance)
            view = view_of(region)
            if view is None:
                self.assertEqual(points, [])
                continue
            if not view.region.vectors:
                self.assertEqual(points, [view.point()])
                continue
            self.assertTrue(view.point() is None or view.point() in points)
            parts = [points_of(part) for part in smaller_regions(view)]
            self.assertEqual(sorted(itertools.chain(*parts)), points)

    def test_many_layers(self):
        lines = [Line([1, 0], 0, 10 ** 30), Line([0, 1], 0, 10 ** 30), Line([7, -11], 3, 3)]
        found = any_point(region_of(lines, 2))
        self.assertEqual(size([7, -11], found), 3)
        self.assertIsNone(any_point(region_of(lines[:2] + [Line([14, -22], 3, 3)], 2)))
        view = view_of(region_of([Line([1, 0], 0, 10 ** 30), Line([1, 1], 0, 10 ** 30)], 2))
        self.assertFalse(view.is_thin())
        low, high, middle = smaller_regions(view)
        self.assertEqual([len(part.vectors) for part in (low, high, middle)], [2, 2, 1])


class Regions(unittest.TestCase):

    def test_parts_and_other_vectors(self):
        chance = random.Random(7)
        for _ in range(60):
            region, points = chance_region(chance)
            many = len(region.vectors)
            place, number = chance.randrange(many), chance.randint(-3, 4)
            line = Line([chance.randint(-3, 3) for _ in range(many)], chance.randint(-5, 5))
            self.assertEqual(points_of(layer(region, place, number)),
                             [point for point in points if point[place] == number])
            self.assertEqual(points_of(stretch(region, place, number - 1, number + 1)),
                             [point for point in points if abs(point[place] - number) <= 1])
            tidy = tidied(region)
            if tidy is None:
                self.assertEqual(points, [])
                continue
            for told, reach in ((tidy, 8), (in_short_vectors(tidy), {1: 8, 2: 20, 3: 10}[many])):
                found = points_of(told, reach)
                if told is tidy or many < 3:
                    self.assertEqual(found, points)
                self.assertEqual(points_of(with_line(told, line), reach),
                                 [point for point in found if line.holds(size(line.form, point))])
                self.assertTrue(all(point[place] % 2 == 0 for point in points_of(with_even(told, place), reach)))
            self.assertEqual(points_of(with_even(tidy, place)), [point for point in points if point[place] % 2 == 0])

    def test_lines_are_told_once_with_integer_ends(self):
        region = region_of([Line([1, 0], 0, 9), Line([0, 1], 0, 9), Line([4, -6], 1, 9), Line([-2, 3], -3, 3)], 2)
        lines = [(line.form, line.low, line.high) for line in tidied(region).lines]
        self.assertEqual(lines, [([1, 0], 0, 9), ([0, 1], 0, 9), ([2, -3], 1, 3)])
        for more in (Line([4, -6], 1, 1), Line([0, 0], 1), Line([0, 0], high=-1), Line([1, 0], low=10)):
            self.assertIsNone(tidied(with_line(region, more)))
        self.assertEqual(len(tidied(with_line(region, Line([0, 0], -1, 0))).lines), 3)

    def test_an_odd_number_that_stays_is_never_even(self):
        region = layer(region_of([Line([1, 0], 0, 9), Line([0, 1], 0, 9)], 2), 0, 3)
        self.assertIsNone(with_even(region, 0))
        self.assertEqual(points_of(with_even(region, 1)), [[3, number] for number in (0, 2, 4, 6, 8)])


class Tables(unittest.TestCase):

    def test_no_integer_point_is_above_the_top(self):
        chance = random.Random(9)
        tops = 0
        for _ in range(200):
            region, points = chance_region(chance)
            tidy = tidied(region)
            if tidy is None:
                continue
            goal = [chance.randint(-4, 4) for _ in region.vectors]
            top = top_of(first_table(tidy.lines, len(goal)), goal)
            if top is None:
                self.assertEqual(points, [])
                continue
            tops += 1
            where = [Fraction(part, top.divisor) for part in top.sizes]
            self.assertEqual(top.worth, size(goal, where) // 1)
            self.assertTrue(all(line.holds(size(line.form, where)) for line in tidy.lines))
            self.assertTrue(all(size(goal, point) <= top.worth for point in points))
        self.assertGreater(tops, 50)

    def test_tops_of_known_lines(self):
        lines = [Line([1, 0], 0, 9), Line([0, 1], 0, 9), Line([2, 2], high=7), Line([1, -1], low=2)]
        top = top_of(first_table(lines, 2), [1, 3])
        self.assertEqual([top.worth] + [Fraction(part, top.divisor) for part in top.sizes],
                         [5, Fraction(11, 4), Fraction(3, 4)])
        self.assertIsNone(top_of(first_table(lines + [Line([1, 1], low=8)], 2), [1, 3]))


class Lattices(unittest.TestCase):

    def test_short_vectors_make_up_all_points(self):
        chance = random.Random(6)
        for _ in range(60):
            many = chance.randrange(1, 7)
            forms = [[chance.randint(-10 ** 9, 10 ** 9) for _ in range(many)]
                     for _ in range(many + chance.randint(0, 2))]
            weights = [chance.randint(1, 10 ** 6) for _ in forms]
            vectors = short_vectors(forms, weights)
            self.assertEqual(abs(determinant(vectors)), 1)
            long = [sum((weight * size(form, vector)) ** 2 for form, weight in zip(forms, weights))
                    for vector in vectors]
            first = [sum((weight * form[place]) ** 2 for form, weight in zip(forms, weights)) for place in range(many)]
            self.assertLessEqual(long[0], 2 ** many * min(first))


def determinant(rows):
    rows = [[Fraction(cell) for cell in row] for row in rows]
    result = Fraction(1)
    for at in range(len(rows)):
        pivot = [place for place in range(at, len(rows)) if rows[place][at] != 0]
        if not pivot:
            return 0
        if pivot[0] != at:
            rows[at], rows[pivot[0]] = rows[pivot[0]], rows[at]
            result = -result
        result *= rows[at][at]
        for other in range(at + 1, len(rows)):
            by = rows[other][at] / rows[at][at]
            rows[other] = [cell - by * more for cell, more in zip(rows[other], rows[at])]
    return result


if __name__ == "__main__":
    unittest.main()

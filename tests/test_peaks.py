"""The integer programs behind extremes, strays and partings, against all integer points of small ones."""

import itertools
import random
import unittest

from figurestay.lattices import shortened, unit_basis
from figurestay.peaks import any_point, greatest_point
from figurestay.tables import Line


def chance_program(chance):
    """A goal and lines: some variables between ends, and what is dropped from sums of them."""
    many, drops, places = chance.choice([1, 2, 2, 3]), chance.choice([1, 2, 3, 4]), chance.choice([1, 1, 2])
    reach, most, one = {1: 90, 2: 12, 3: 5}[many], chance.choice([3, 12, 99]), 10 ** places
    low, high = chance.choice([(-one // 2, one // 2 - 1), (0, one - 1)])
    forms = [[chance.randint(-most, most) for _ in range(many)] for _ in range(drops)]
    lines = [Line([int(place == other) for other in range(many + drops)], -reach, reach) for place in range(many)]
    for at, form in enumerate(forms):
        lines.append(Line(form + [-one if at == other else 0 for other in range(drops)], low, high))
    points = []
    for point in itertools.product(range(-reach, reach + 1), repeat=many):
        sums = [sum(number * factor for number, factor in zip(point, form)) for form in forms]
        points.append(list(point) + [(total - low) // one for total in sums])
    goal = [chance.randint(-5, 5) for _ in range(many + drops)]
    return goal, lines, points


def size(goal, point):
    return sum(number * factor for number, factor in zip(goal, point))


class Peaks(unittest.TestCase):

    def test_all_points_of_small_programs(self):
        chance = random.Random(5)
        for _ in range(250):
            goal, lines, points = chance_program(chance)
            best = max(size(goal, point) for point in points)
            for least in (best - 1, best - 1000, -10 ** 30):
                found = greatest_point(goal, list(lines), least)
                self.assertIn(found, points)
                self.assertEqual(size(goal, found), best)
            self.assertIsNone(greatest_point(goal, list(lines), best))
            self.assertIsNone(any_point(goal, list(lines), best))
            for least in (best - 1, best - 20):
                found = any_point(goal, list(lines), least)
                self.assertIn(found, points)
                self.assertGreater(size(goal, found), least)

    def test_more_lines_than_variables(self):
        lines = [Line([1, 0], 0, 9), Line([0, 1], 0, 9), Line([1, 1], high=7), Line([1, -1], low=2)]
        found = greatest_point([1, 3], lines, -1)
        self.assertEqual(found, max(([one, other] for one in range(10) for other in range(10)
                                     if one + other <= 7 and one - other >= 2), key=lambda told: told[0] + 3 * told[1]))
        self.assertIsNone(greatest_point([1, 3], lines + [Line([1, 1], low=8)], -1))

    def test_bases_stay_bases(self):
        chance = random.Random(6)
        for _ in range(60):
            many = chance.randrange(1, 7)
            forms = [[chance.randint(-10 ** 9, 10 ** 9) for _ in range(many)] for _ in range(many)]
            weights = [chance.randint(1, 10 ** 6) for _ in range(many)]
            basis = shortened(unit_basis(many), forms, weights)
            for place, form in enumerate(basis.forms):
                self.assertEqual([size(form, vector) for vector in basis.vectors],
                                 [int(place == other) for other in range(many)])
            long = [sum((weight * size(form, vector)) ** 2 for form, weight in zip(forms, weights))
                    for vector in basis.vectors]
            first = [sum((weight * form[place]) ** 2 for form, weight in zip(forms, weights)) for place in range(many)]
            self.assertLessEqual(long[0], 2 ** many * min(first))


if __name__ == "__main__":
    unittest.main()

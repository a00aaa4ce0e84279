"""[13] and [48]: from a told result back to the worths of one column."""

import random
import unittest

from figurestay.backs import told_back
from figurestay.dialects import Dialect
from figurestay.errors import BadValue, BadWorths, NoColumn, NotOnce, TooWide
from figurestay.formulas import Formula, column, constant
from figurestay.shaped import Shaped
from figurestay.shapes import Column
from figurestay.ways import WAYS
from figurestay.worked import work
from figurestay.worths import Worth
from helper import Case, chance_tree, is_worth, rows_of, values_of_all_kinds, worths_of

COLUMNS = {"a": Column(1, 1), "b": Column(1, 0), "c": Column(0, 1, "positive"), "d": Column(1, 1, "unsigned")}


def is_name(value):
    return isinstance(value, str) and 1 <= len(value) <= 8 and all("a" <= sign <= "z" for sign in value)


def is_dict(value):
    return isinstance(value, dict)


class Backs(Case):

    def check(self, shaped, worths, name):
        """All results against the working at all worths of the column."""
        found = {}
        every = worths_of(shaped.columns()[name])
        for place, worth in enumerate(every):
            run = work(shaped, {**worths, name: worth})
            if run.result is not None:
                found.setdefault((run.result.units, run.result.scale), []).append(place)
        some = list(found)[:3] + list(found)[3:-3:1 + len(found) // 15] + list(found)[-3:]
        for units, scale in some:
            places = found[units, scale]
            low, high = told_back(shaped, worths, name, Worth(units, scale))
            self.assertEqual(places, list(range(places[0], places[-1] + 1)))
            self.assertTrue(low == every[places[0]] and high == every[places[-1]], (shaped.formula.rows, units, scale))
        for result in (Worth(1), Worth(-7), Worth(0), Worth(123, 4), Worth(10 ** 40)):
            if (result.units, result.scale) not in found:
                self.assertIsNone(told_back(shaped, worths, name, result), shaped.formula.rows)
        return len(found)

    def test_chance_formulas(self):
        chance, checked = random.Random(13), 0
        while checked < 700:
            formula = Formula(rows_of(chance_tree(chance, chance.randrange(1, 12), "abcd")))
            dialect = Dialect(chance.randrange(4, 12), chance.randrange(4), way=chance.choice(WAYS),
                              places=chance.randrange(3))
            names = [name for name in formula.names() if self.stands_once(formula, name)]
            if not names:
                continue
            name = chance.choice(names)
            worths = {told: chance.choice(worths_of(COLUMNS[told])) for told in COLUMNS if told != name}
            try:
                shaped = Shaped(formula, COLUMNS, dialect)
            except TooWide:
                continue
            self.check(shaped, worths, name)
            checked += 1

    def stands_once(self, formula, name):
        places = [step for step, row in enumerate(formula.rows) if row == ("column", name)]
        within = [row[2] for row in formula.rows if row[0] == "quotient"]
        divides = any(name in formula.part(step).names() for step in within)
        return len(places) == 1 and not divides

    def test_each_kind_of_step(self):
        a, worths = column("a"), {"b": Worth(-3), "c": Worth(7, 1), "d": Worth(0)}
        formulas = [
            a, -a, a + column("b"), column("b") - a, a - column("b"), a * column("b"), column("b") * a, a * column("d"),
            a.over(column("b")), a.over(column("c")), a.over(column("d")), a.over(3).rounded(0, "halfeven"),
            a.cast(1, 0), a.cast(0, 1), -(a.rounded(0, "away")), (a * 0).cast(1, 0) + column("d"), a * 0 + 7,
            (a - column("b")).rounded(0, "cut") * -2, a.rounded(0, "floor").over(column("b")), (a * 3).cast(1, 1),
            a + column("b").over(column("d")), a * 0 + column("b").cast(0, 1), (a * 4).cast(1, 0) + column("b").cast(0, 1),
        ]
        for place, formula in enumerate(formulas):
            for cap in (2, 3, 5, 20):
                self.check(Shaped(formula, COLUMNS, Dialect(cap, 1, way=WAYS[(place + cap) % 9])), worths, "a")
        self.assertGreater(self.check(Shaped(-(a * 4).cast(1, 0), COLUMNS, Dialect(20, 0)), worths, "a"), 15)

    def test_wide_columns(self):
        told = Column(50, 50)
        formula = (column("a") * constant(5, 1) - column("b")).rounded(3, "halfeven")
        shaped = Shaped(formula, {"a": told, "b": told}, Dialect(200, 0))
        middle = 2 * (Worth(12345 * 10 ** 40, 3) + Worth(3, 50))
        low, high = told_back(shaped, {"b": Worth(3, 50)}, "a", Worth(12345 * 10 ** 40, 3))
        # The units of this result are an even number, so it keeps both halves.
        self.assertEqual((str(low), str(high)), (str(middle - Worth(1, 3)), str(middle + Worth(1, 3))))
        self.assertIsNone(told_back(shaped, {"b": told.highest()}, "a", Worth(0)))
        self.assertIsNone(told_back(shaped, {"b": Worth(3, 50)}, "a", Worth(1, 4)))

    def test_sixty_steps(self):
        formula = column("a")
        for step in range(14):
            formula = (-(formula + column("b"))).cast(60 + step, 10)
        formula = formula.rounded(2, "away")
        self.assertEqual(formula.size, 58)
        columns = {"a": Column(60, 40), "b": Column(20, 3)}
        shaped = Shaped(formula, columns, Dialect(200, 20))
        worths = {"b": Worth(12345, 3)}
        result = work(shaped, {**worths, "a": Worth(98765, 4)}).result
        low, high = told_back(shaped, worths, "a", result)
        unit = Worth(1, 40)
        for worth, holds in ((low, True), (high, True), (low - unit, False), (high + unit, False)):
            self.assertEqual(work(shaped, {**worths, "a": worth}).result == result, holds)

    def test_the_dict_may_have_more(self):
        shaped = Shaped(column("a") + column("b"), COLUMNS, Dialect(9, 0))
        worths = {"a": "no worth", "b": Worth(2), "z": None, 7: 8}
        kept = dict(worths)
        low, high = told_back(shaped, worths, "a", Worth(25, 1))
        self.assertEqual((str(low), str(high)), ("0.5", "0.5"))
        self.assertEqual(list(worths), list(kept))
        self.assertIsNone(told_back(result=Worth(25, 2), name="a", worths=worths, shaped=shaped))

    def test_refused_values(self):
        shaped = Shaped(column("a") + column("b"), COLUMNS, Dialect(9, 0))
        self.refuses_all_but(lambda value: isinstance(value, Shaped),
                             lambda value: told_back(value, None, None, None))
        self.refuses_all_but(is_dict, lambda value: told_back(shaped, value, "A", 1))
        self.refuses_all_but(is_name, lambda value: told_back(shaped, {}, value, Worth(1)))
        self.refuses_all_but(is_worth, lambda value: told_back(shaped, {}, "zz", value))
        for value in values_of_all_kinds():
            if not is_name(value):
                self.refused(BadValue, {"value": value}, told_back, shaped, {}, value, None)

    def test_refused_in_order(self):
        a, b = column("a"), column("b")
        shaped = Shaped(a * b.over(column("c") + a), COLUMNS, Dialect(9, 0))
        self.refused(BadValue, {"value": 5}, told_back, shaped, {}, "d", 5)
        self.refused(NoColumn, {"name": "d"}, told_back, shaped, {}, "d", Worth(5))
        self.refused(NotOnce, {"name": "a"}, told_back, shaped, {}, "a", Worth(5))
        self.refused(NotOnce, {"name": "c"}, told_back, shaped, {}, "c", Worth(5))
        self.refused(BadWorths, {"name": "a"}, told_back, shaped, {}, "b", Worth(5))
        self.refused(BadWorths, {"name": "c"}, told_back, shaped, {"a": Worth(1), "c": Worth(0)}, "b", Worth(5))
        self.refused(BadWorths, {"name": "a"}, told_back, shaped, {"a": Worth(1, 2), "b": 5}, "b", Worth(5))
        twice = Shaped(a + b.over(a), COLUMNS, Dialect(9, 0))
        self.refused(NotOnce, {"name": "a"}, told_back, twice, {}, "a", Worth(5))
        for formula in (a + a, a * b - a, -(a + 1) + a + b):
            self.refused(NotOnce, {"name": "a"}, told_back, twice.with_formula(formula), {}, "a", Worth(5))
        deep = Shaped(b.over(-(column("c") + 1)) + a, COLUMNS, Dialect(9, 0))
        self.refused(NotOnce, {"name": "c"}, told_back, deep, {}, "c", Worth(5))


if __name__ == "__main__":
    unittest.main()

"""[11], [12] and [47]: formulas worked out."""

import random
import unittest
from fractions import Fraction

from figurestay.dialects import Dialect
from figurestay.errors import BadValue, BadWorths, NoDivisor, Overflow
from figurestay.formulas import Formula, column, constant
from figurestay.shaped import Shaped
from figurestay.shapes import Column
from figurestay.ways import WAYS
from figurestay.worked import Run, exact_worth, result_of, work
from figurestay.worths import Worth
from helper import Case, chance_formula, values_of_all_kinds
from test_ways import by_the_words

COLUMNS = {"a": Column(3, 2), "b": Column(1, 0, "unsigned"), "c": Column(0, 2, "positive")}

SMALL = {"c": Column(0, 2, "positive")}


def fraction(worth):
    return Fraction(worth.units, 10 ** worth.scale)


def raw_by_the_words(row, results, worths):
    """The raw result of a step as a Fraction; None if it divides by 0."""
    word = row[0]
    if word == "column":
        return fraction(worths[row[1]])
    if word == "constant":
        return Fraction(row[1], 10 ** row[2])
    one = results[row[1]]
    if word == "negative":
        return -one
    if word in ("cast", "round"):
        return one
    other = results[row[2]]
    if word == "quotient":
        return None if other == 0 else one / other
    return {"sum": one + other, "difference": one - other, "product": one * other}[word]


def run_by_the_words(shaped, worths):
    """The results, the events and the result that is too great, if there is one, as [11] says."""
    results, events = [], []
    for step, row in enumerate(shaped.formula.rows):
        raw = raw_by_the_words(row, results, worths)
        if raw is None:
            return results, events + [(step, "zero")], None
        scale, way = shaped.shapes[step].scale, shaped.dialect.way
        if row[0] == "round":
            scale, way = row[2], row[3]
        result = Fraction(by_the_words(raw * 10 ** scale, way), 10 ** scale)
        if row[0] in ("sum", "difference", "product", "quotient") and result != raw:
            events.append((step, "lost"))
        if abs(result) >= 10 ** shaped.shapes[step].whole:
            return results, events + [(step, "over")], result
        results.append(result)
    return results, events, None


def exact_by_the_words(formula, worths):
    results = []
    for row in formula.rows:
        results.append(raw_by_the_words(row, results, worths))
        if results[-1] is None:
            return None
    return results[-1]


def chance_worths(chance, columns):
    worths = {}
    for name, told in columns.items():
        low, high = [end.units_at(told.shape.scale) for end in (told.lowest(), told.highest())]
        units = chance.choice([low, high, chance.randint(low, high), chance.randint(low, high) // 10])
        worths[name] = Worth(max(low, units), told.shape.scale)
    return worths


class Worked(Case):

    def check(self, shaped, worths):
        results, events, too_great = run_by_the_words(shaped, worths)
        run = work(shaped, worths)
        self.assertEqual([fraction(result) for result in run.results], results)
        self.assertEqual(run.events, tuple(events))
        self.assertIs(type(run.results), tuple)
        if events and events[-1][1] != "lost":
            self.assertEqual(run.ends_at, events[-1][0])
            self.assertIsNone(run.result)
        else:
            self.assertIsNone(run.ends_at)
            self.assertEqual(fraction(run.result), results[-1])
        self.check_result(shaped, worths, run, too_great)
        return events

    def check_result(self, shaped, worths, run, too_great):
        if too_great is not None:
            with self.assertRaises(Overflow) as caught:
                result_of(shaped, worths)
            self.assertEqual((caught.exception.step, fraction(caught.exception.worth)), (run.ends_at, too_great))
        elif run.ends_at is not None:
            self.refused(NoDivisor, {}, result_of, shaped, worths)
        else:
            self.assertTrue(result_of(shaped, worths) == run.result)

    def check_exact(self, formula, worths):
        wanted = exact_by_the_words(formula, worths)
        if wanted is None:
            self.refused(NoDivisor, {}, exact_worth, formula, worths)
        else:
            self.assertEqual(exact_worth(formula, worths), (wanted.numerator, wanted.denominator))

    def test_chance_formulas(self):
        chance, seen = random.Random(21), {}
        for _ in range(2500):
            formula = chance_formula(chance, chance.randrange(1, 16))
            cap = chance.randrange(6, 16)
            dialect = Dialect(cap, chance.randrange(cap + 1), extra=chance.randrange(2), places=chance.randrange(5),
                              way=chance.choice(WAYS))
            worths = chance_worths(chance, COLUMNS)
            for step, event in self.check(Shaped(formula, COLUMNS, dialect), worths):
                seen[event] = seen.get(event, 0) + 1
            self.check_exact(formula, worths)
        for event in ("zero", "lost", "over"):
            self.assertGreater(seen[event], 100)

    def test_all_worths_of_small_columns(self):
        columns = {"a": Column(1, 1), "b": Column(1, 0)}
        a, b = column("a"), column("b")
        formulas = [a.over(b), a * a - b, (a + b).cast(1, 0), (a * b).rounded(0, "halfeven"), b.over(a), a.cast(0, 1)]
        for number, formula in enumerate(formulas):
            for way in WAYS:
                shaped = Shaped(formula, columns, Dialect(3, number % 3, way=way))
                for units in range(-99, 100, 7):
                    for other in range(-9, 10, 3):
                        self.check(shaped, {"a": Worth(units, 1), "b": Worth(other)})

    def test_formulas_of_60_steps(self):
        chance = random.Random(3)
        for _ in range(40):
            formula = chance_formula(chance, 60)
            worths = chance_worths(chance, COLUMNS)
            self.check(Shaped(formula, COLUMNS, Dialect(200, 60, places=50)), worths)
            self.check_exact(formula, worths)

    def test_wide_columns(self):
        chance, columns = random.Random(2), {"w": Column(50, 50), "v": Column(100, 0), "u": Column(0, 100)}
        for _ in range(40):
            formula = chance_formula(chance, 12, "wvu")
            worths = chance_worths(chance, columns)
            self.check(Shaped(formula, columns, Dialect(200, 60, places=200)), worths)
            self.check_exact(formula, worths)

    def test_formulas_of_one_step(self):
        run = work(Shaped(column("a"), COLUMNS, Dialect(5, 0)), {"a": Worth(-99999, 2)})
        self.assertEqual((str(run.result), run.events, run.ends_at), ("-999.99", (), None))
        run = work(Shaped(constant(0, 3), {}, Dialect(3, 0)), {})
        self.assertEqual(([str(result) for result in run.results], run.events), (["0"], ()))

    def test_lost_ahead_of_over_at_one_step(self):
        shaped = Shaped(column("a") * column("a"), COLUMNS, Dialect(5, 2))
        run = work(worths={"a": Worth(99999, 2)}, shaped=shaped)
        self.assertEqual((run.events, len(run.results), run.ends_at), (((2, "lost"), (2, "over")), 2, 2))
        with self.assertRaises(Overflow) as caught:
            result_of(worths={"a": Worth(99999, 2)}, shaped=shaped)
        self.assertEqual((caught.exception.step, str(caught.exception.worth)), (2, "999980"))

    def test_over_by_rounding_alone(self):
        shaped = Shaped(column("a").cast(3, 1), COLUMNS, Dialect(5, 2))
        self.assertEqual(work(shaped, {"a": Worth(99994, 2)}).events, ())
        self.assertEqual(work(shaped, {"a": Worth(99995, 2)}).events, ((1, "over"),))
        self.assertEqual(work(shaped, {"a": Worth(-99995, 2)}).events, ())
        self.assertEqual(work(shaped, {"a": Worth(-99996, 2)}).events, ((1, "over"),))

    def test_casts_and_rounds_lose_nothing(self):
        shaped = Shaped(column("a").cast(4, 0).rounded(0, "cut") * column("a").rounded(1, "away"), COLUMNS, Dialect(9, 0))
        run = work(shaped, {"a": Worth(-1255, 2)})
        self.assertEqual(([str(one) for one in run.results], run.events),
                         (["-12.55", "-13", "-13", "-12.55", "-12.6", "163.8"], ()))

    def test_a_round_goes_by_its_own_way_and_scale(self):
        for way in WAYS:
            shaped = Shaped(column("c").rounded(0, way), COLUMNS, Dialect(5, 0, way="floor"))
            for units in (1, 49, 50, 51, 99):
                self.assertEqual(work(shaped, {"c": Worth(units, 2)}).result.units, by_the_words(Fraction(units, 100), way))
            shaped = Shaped(column("c").rounded(1, way), COLUMNS, Dialect(5, 0, way="floor"))
            run = work(shaped, {"c": Worth(99, 2)})
            is_over = by_the_words(Fraction(99, 10), way) == 10
            self.assertEqual(run.events, ((1, "over"),) if is_over else ())
        wide = Shaped(column("c").rounded(9, "away"), COLUMNS, Dialect(5, 0))
        self.assertEqual(str(work(wide, {"c": Worth(1, 2)}).result), "0.01")

    def test_division_by_0(self):
        shaped = Shaped(column("a").over(column("b")) + 1, COLUMNS, Dialect(9, 0))
        worths = {"a": Worth(0), "b": Worth(0)}
        run = work(shaped, worths)
        self.assertEqual((run.events, len(run.results), run.ends_at, run.result), (((2, "zero"),), 2, 2, None))
        self.refused(NoDivisor, {}, result_of, shaped, worths)
        rounded_away = Shaped(column("a").over(column("c").rounded(0, "cut")), COLUMNS, Dialect(9, 0))
        self.assertEqual(work(rounded_away, {"a": Worth(1), "c": Worth(99, 2)}).events, ((3, "zero"),))
        self.assertEqual(exact_worth(rounded_away.formula, {"a": Worth(1), "c": Worth(99, 2)}), (100, 99))

    def test_events_of_several_steps(self):
        shaped = Shaped((column("a").over(3) + column("a").over(7)).cast(2, 0), COLUMNS, Dialect(9, 0))
        run = work(shaped, {"a": Worth(1)})
        self.assertEqual((run.events, str(run.result)), (((2, "lost"), (5, "lost")), "0"))
        run = work(shaped, {"a": Worth(500)})
        self.assertEqual((run.events, run.ends_at), (((2, "lost"), (5, "lost"), (7, "over")), 7))


class Runs(Case):

    def test_equal_by_value(self):
        shaped = Shaped(column("a") * column("a"), COLUMNS, Dialect(6, 2))
        one = work(shaped, {"a": Worth(1)})
        self.assertIs(type(one), Run)
        self.assertTrue(one == work(shaped, {"a": Worth(1), "b": Worth(5)}))
        self.assertTrue(one == work(shaped.with_formula(shaped.formula), {"a": Worth(100, 2)}))
        self.assertTrue(one != work(shaped, {"a": Worth(-1)}))
        lossy = Shaped(column("c") * column("c"), SMALL, Dialect(3, 2))
        self.assertTrue(work(lossy, {"c": Worth(1, 2)}) != work(lossy, {"c": Worth(2, 2)}))
        zero, over = [Shaped(column("a").over(0), COLUMNS, Dialect(9, 0)),
                      Shaped(column("a") * 0, COLUMNS, Dialect(9, 0))]
        self.assertTrue(work(zero, {"a": Worth(1)}) != work(over, {"a": Worth(1)}))
        for value in values_of_all_kinds():
            if not isinstance(value, Run):
                self.assertFalse(one == value)

    def test_runs_that_differ_in_events_alone(self):
        exact = Shaped(column("c") * 1, SMALL, Dialect(6, 0))
        lossy = Shaped(column("c") * constant(104, 2), SMALL, Dialect(3, 2))
        cast = lossy.with_formula(column("c").cast(1, 2))
        one, other = [work(shaped, {"c": Worth(1, 2)}) for shaped in (lossy, cast)]
        self.assertTrue(one.result == other.result and one != other)
        self.assertEqual((one.events, work(exact, {"c": Worth(1, 2)}).events), (((2, "lost"),), ()))
        ended, other = [work(Shaped(formula, COLUMNS, Dialect(5, 0)), {"a": Worth(999)})
                        for formula in (column("a").cast(1, 0), column("a"))]
        self.assertTrue(ended.results == other.results and ended != other)


class Refused(Case):

    def test_bad_values_from_left_to_right(self):
        shaped = Shaped(column("a"), COLUMNS, Dialect(5, 0))
        for call in (work, result_of):
            self.refuses_all_but(lambda value: isinstance(value, Shaped), lambda value: call(value, None))
            self.refuses_all_but(lambda value: isinstance(value, dict), lambda value: call(shaped, value))
        self.refuses_all_but(lambda value: isinstance(value, Formula), lambda value: exact_worth(value, None))
        self.refuses_all_but(lambda value: isinstance(value, dict), lambda value: exact_worth(column("a"), value))
        self.refused(BadValue, {"value": 2}, work, 2, 1)

    def test_bad_worths_with_the_first_name(self):
        formula = (column("b") + column("a") + column("c")).over(0)
        shaped = Shaped(formula, COLUMNS, Dialect(5, 0))
        good = {"c": Worth(5, 2), "b": Worth(3), "a": Worth(-1, 2)}
        bad = {"a": Worth(1, 3), "b": Worth(-1), "c": Worth(0)}
        self.refused(NoDivisor, {}, result_of, shaped, good)
        for call in (work, result_of):
            self.refused(BadWorths, {"name": "a"}, call, shaped, {})
            self.refused(BadWorths, {"name": "b"}, call, shaped, {"a": Worth(1)})
            for name in "abc":
                self.refused(BadWorths, {"name": name}, call, shaped, dict(good, **{name: bad[name]}))
                for value in values_of_all_kinds():
                    if not isinstance(value, Worth):
                        self.refused(BadWorths, {"name": name}, call, shaped, dict(good, **{name: value}))
            for names in ("cb", "bc"):
                self.refused(BadWorths, {"name": "b"}, call, shaped, dict(good, **{name: None for name in names}))
            self.refused(BadWorths, {"name": "a"}, call, shaped, dict(reversed(list(bad.items()))))
            self.refused(BadWorths, {"name": "a"}, call, shaped, dict(good, a=Worth(1000)))

    def test_bad_worths_of_exact_worth(self):
        formula = (column("b") + column("a")).over(0)
        self.refused(BadWorths, {"name": "a"}, exact_worth, formula, {"b": Worth(1)})
        self.refused(BadWorths, {"name": "b"}, exact_worth, formula, {"a": Worth(10 ** 50, 3)})
        self.refused(BadWorths, {"name": "a"}, exact_worth, formula, {})
        for value in values_of_all_kinds():
            if not isinstance(value, Worth):
                self.refused(BadWorths, {"name": "a"}, exact_worth, formula, {"a": value, "b": value})
        self.refused(NoDivisor, {}, exact_worth, formula, {"a": Worth(1), "b": Worth(2)})
        self.assertEqual(exact_worth(worths={"a": Worth(15, 1)}, formula=column("a").over(-3)), (-1, 2))
        self.assertEqual(exact_worth(column("a") - column("a"), {"a": Worth(15, 7)}), (0, 1))
        self.assertEqual(exact_worth(constant(0, 2).over(-7), {}), (0, 1))

    def test_other_names_have_no_meaning_and_nothing_changes(self):
        shaped = Shaped(column("b") + 1, COLUMNS, Dialect(5, 0))
        worths = {"b": Worth(3), "a": None, "z": [1], 5: "x", None: {}, "": Worth(0), (1, 2): ()}
        kept = dict(worths)
        self.assertEqual(str(work(shaped, worths).result), "4")
        self.assertEqual(str(result_of(shaped, worths)), "4")
        self.assertEqual(exact_worth(shaped.formula, worths), (4, 1))
        self.assertEqual(list(worths.items()), list(kept.items()))

    def test_a_dict_that_changes_behind_the_call(self):
        shaped = Shaped(column("b") + 1, COLUMNS, Dialect(5, 0))
        worths = {"b": Worth(3)}
        run = work(shaped, worths)
        worths["b"] = Worth(9)
        self.assertEqual(str(run.results[0]), "3")


if __name__ == "__main__":
    unittest.main()

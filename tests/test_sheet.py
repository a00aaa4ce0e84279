"""Sheets, against plain lists and dicts that are kept beside them, and promises against all worths of small columns."""

import random
import time
import unittest

from helper import (Case, all_worths, chance_linear_pair, exact_results, first_over_step, fraction, free_results, nested,
                    straight_result, values_of_all_kinds)

from figurestay.agree import parting
from figurestay.dialects import Dialect
from figurestay.errors import (BadColumn, BadPromise, BadValue, Broken, CanOver, Divides, FigureError, InUse, NoColumn,
                               NotLinear, NotPlain, Taken, TooWide, Unknown, WideColumn)
from figurestay.events import first_event, is_safe
from figurestay.exacts import is_plain
from figurestay.extremes import first_over, losing
from figurestay.formulas import Formula, column, constant
from figurestay.reader import read_formula
from figurestay.shaped import Shaped
from figurestay.shapes import Column
from figurestay.sheet import Sheet
from figurestay.strays import stray
from figurestay.worked import work
from figurestay.worths import Worth

A, B = column("a"), column("b")


def is_good_name(value):
    return isinstance(value, str) and value in ("a", "abc", "signed", "positive", "floor", "halfup", "sum", "quotient")


def state_of(sheet):
    return sheet.columns(), sheet.formulas(), sheet.promises()


def small_sheet():
    sheet = Sheet(Dialect(6, 0))
    sheet.set_column("a", Column(1, 1))
    sheet.set_column("b", Column(1, 0, "unsigned"))
    sheet.set_formula("f", A + B)
    sheet.set_formula("g", (A * 2).rounded(0, "halfup"))
    return sheet


class Deeds(Case):

    def test_columns_and_formulas(self):
        sheet = Sheet(Dialect(6, 0))
        self.assertEqual(state_of(sheet), ({}, {}, []))
        self.assertEqual(sheet.dialect, Dialect(6, 0))
        self.assertIsNone(sheet.set_column("a", Column(1, 1)))
        self.assertIsNone(sheet.set_formula(formula=A + 1, name="f"))
        self.assertIsNone(sheet.set_column(column=Column(2, 1), name="a"))
        self.assertEqual(state_of(sheet), ({"a": Column(2, 1)}, {"f": A + 1}, []))
        shaped = sheet.shaped_of("f")
        self.assertEqual((shaped.formula, shaped.columns(), shaped.dialect), (A + 1, {"a": Column(2, 1)}, Dialect(6, 0)))
        self.assertIsNone(sheet.drop("f"))
        self.assertIsNone(sheet.drop(name="a"))
        self.assertEqual(state_of(sheet), ({}, {}, []))

    def test_what_is_returned_is_new(self):
        sheet = small_sheet()
        sheet.promise(("safe", "f"))
        for told in state_of(sheet):
            told.clear()
        self.assertEqual([len(told) for told in state_of(sheet)], [2, 2, 1])
        sheet.shaped_of("f").columns().clear()
        self.assertEqual(len(sheet.columns()), 2)

    def test_refusals_of_set_column(self):
        sheet = small_sheet()
        before = state_of(sheet)
        self.refuses_all_but(is_good_name, lambda value: sheet.set_column(value, None))
        self.refuses_all_but(lambda value: isinstance(value, Column), lambda value: sheet.set_column("f", value),
                             BadColumn, "column")
        self.refused(Taken, {"name": "f"}, sheet.set_column, "f", Column(9, 9))
        self.refused(WideColumn, {"name": "c"}, sheet.set_column, "c", Column(6, 1))
        self.refused(WideColumn, {"name": "a"}, sheet.set_column, "a", Column(7, 0))
        self.assertEqual(state_of(sheet), before)

    def test_refusals_of_set_formula(self):
        sheet = small_sheet()
        before = state_of(sheet)
        self.refuses_all_but(is_good_name, lambda value: sheet.set_formula(value, None))
        self.refuses_all_but(lambda value: isinstance(value, Formula), lambda value: sheet.set_formula("a", value))
        self.refused(Taken, {"name": "a"}, sheet.set_formula, "a", column("nowhere"))
        self.refused(NoColumn, {"name": "z"}, sheet.set_formula, "h", A * column("z") + constant(10 ** 7))
        self.refused(NoColumn, {"name": "f"}, sheet.set_formula, "h", column("f"))
        self.refused(TooWide, {"step": 1}, sheet.set_formula, "h", A * constant(10 ** 7) + column("z"))
        self.refused(TooWide, {"step": 1}, sheet.set_formula, "f", A.cast(6, 1))
        self.assertEqual(state_of(sheet), before)

    def test_refusals_of_drop(self):
        sheet = small_sheet()
        sheet.set_column("c", Column(1, 0))
        sheet.promise(("near", "g", Worth(1)))
        sheet.promise(("agree", "f", "f"))
        before = state_of(sheet)
        self.refuses_all_but(is_good_name, sheet.drop)
        self.refused(Unknown, {"name": "z"}, sheet.drop, "z")
        for name in ("a", "b", "f", "g"):
            self.refused(InUse, {"name": name}, sheet.drop, name)
        self.assertEqual(state_of(sheet), before)
        sheet.release(("agree", "f", "f"))
        sheet.drop("f")
        sheet.drop("b")
        self.refused(InUse, {"name": "a"}, sheet.drop, "a")
        sheet.drop("c")

    def test_refusals_of_shaped_of_and_of_the_sheet(self):
        self.refuses_all_but(lambda value: isinstance(value, Dialect), Sheet)
        sheet = small_sheet()
        self.refuses_all_but(is_good_name, sheet.shaped_of)
        self.refused(Unknown, {"name": "a"}, sheet.shaped_of, "a")
        self.assertNotEqual(Sheet(Dialect(6, 0)), Sheet(Dialect(6, 0)))


class Promises(Case):

    def test_values_that_are_no_promise(self):
        sheet = small_sheet()
        bad = values_of_all_kinds() + [
            ("safe",), ("safe", "f", "f"), ("safe", "F"), ("safe", None), ["safe", "f"], ("equal", "f"), ("equal", "f", "g", "g"),
            ("agree", "f", Worth(1)), ("near", "f", 1), ("near", "f", "g"), ("near", Worth(1), "f"), ("near", "f"), ("none", "f"),
            (None, "f"), ("safe", ["f"]), ("equal", "f", ""), (("safe",), "f"), ("near", "f", nested(20)), (["safe"], "f"),
        ]
        for value in bad:
            for call in (sheet.promise, sheet.holds, sheet.release):
                with self.assertRaises(BadPromise) as caught:
                    call(value)
                self.assertIs(caught.exception.told, value)
        for told, name in ((("safe", "z"), "z"), (("equal", "z", "y"), "z"), (("agree", "f", "a"), "a"), (("near", "b", Worth(1)), "b")):
            for call in (sheet.promise, sheet.holds):
                self.refused(Unknown, {"name": name}, call, told)
            self.refused(BadPromise, {"told": told}, sheet.release, told)
        self.assertEqual(sheet.promises(), [])

    def test_all_worths_of_small_columns(self):
        chance = random.Random(71)
        counts = {}
        for _ in range(160):
            one, other = chance_linear_pair(chance)
            if chance.random() < 0.3:
                other = one.with_formula(0 + one.formula)
            every = all_worths(one.columns(), sorted(set(one.formula.names() + other.formula.names())))
            if len(every) > 1200:
                continue
            sheet = Sheet(one.dialect)
            for name, told in one.columns().items():
                sheet.set_column(name, told)
            sheet.set_formula("one", one.formula)
            sheet.set_formula("other", other.formula)
            promises = [("safe", "one"), ("equal", "one", "other"), ("agree", "one", "other"), ("near", "one", Worth(5, 1)),
                        ("near", "one", Worth(0)), ("near", "one", Worth(-1))]
            for told in promises:
                answer = self.check_promise(sheet, told, one, other, every)
                key = told[0], answer
                counts[key] = counts.get(key, 0) + 1
        for word in ("safe", "equal", "agree", "near"):
            self.assertTrue(all(counts.get((word, answer), 0) > 3 for answer in (True, False)), counts)

    def check_promise(self, sheet, told, one, other, every):
        """Whether a promise holds by its words; None if its function raises an error."""
        before = state_of(sheet)
        try:
            held = sheet.holds(told)
        except (NotPlain, Divides, CanOver) as error:
            with self.assertRaises(type(error)) as caught:
                sheet.promise(told)
            self.assertEqual(caught.exception.step, error.step)
            self.assertEqual(state_of(sheet), before)
            return None
        broken = [worths for worths in every if self.breaks(told, one, other, worths)]
        self.assertIs(held, not broken)
        if held:
            self.assertIsNone(sheet.promise(told))
            self.assertEqual(sheet.promises(), before[2] + [told])
            return True
        with self.assertRaises(Broken) as caught:
            sheet.promise(told)
        self.assertEqual(caught.exception.told, told)
        worths = caught.exception.worths
        self.assertEqual(sorted(worths), sorted(one.columns()))
        self.assertTrue(all(one.columns()[name].holds(worths[name]) for name in worths))
        self.assertTrue(self.breaks(told, one, other, worths))
        self.assertEqual(state_of(sheet), before)
        return False

    def breaks(self, told, one, other, worths):
        if told[0] == "safe":
            return work(one, worths).events != ()
        if told[0] == "equal":
            return exact_results(one.formula, worths)[-1] != exact_results(other.formula, worths)[-1]
        result = free_results(one, worths)[1][-1]
        if told[0] == "agree":
            return result != free_results(other, worths)[1][-1]
        return abs(result - straight_result(one, worths)) > fraction(told[2])

    def test_deeds_that_would_break_a_promise(self):
        sheet = small_sheet()
        sheet.promise(("safe", "f"))
        sheet.promise(("near", "g", Worth(5, 1)))
        sheet.promise(("agree", "f", "f"))
        before = state_of(sheet)
        for deed in (lambda: sheet.set_column("a", Column(6, 0)), lambda: sheet.set_formula("f", A * constant(99999, 0)),
                     lambda: sheet.set_formula("f", A * constant(5, 1) * constant(5, 1) * constant(1, 5))):
            with self.assertRaises(Broken) as caught:
                deed()
            self.assertEqual(caught.exception.told, ("safe", "f"))
            self.assertEqual(sorted(caught.exception.worths), ["a", "b"])
            self.assertEqual(state_of(sheet), before)
        with self.assertRaises(Broken) as caught:
            sheet.set_formula("g", A.rounded(0, "cut"))
        self.assertEqual(caught.exception.told, ("near", "g", Worth(5, 1)))
        self.refused(NotLinear, {"step": 2}, sheet.set_formula, "g", A * B)
        self.refused(NotPlain, {"step": 2}, sheet.set_formula, "f", A * A)
        self.refused(NotLinear, {"step": 2}, sheet.set_formula, "f", A * B)
        with self.assertRaises(CanOver) as caught:
            sheet.attempt(lambda it: [it.set_column("a", Column(6, 0)), it.set_formula("f", B + 1)])
        self.assertEqual(caught.exception.step, 2)
        self.assertEqual(state_of(sheet), before)
        self.assertTrue(sheet.undo())
        self.assertEqual(sheet.promises(), before[2][:2])

    def test_the_first_promise_is_told_in_the_order_in_which_they_were_made(self):
        told = [("safe", "f"), ("near", "f", Worth(0)), ("agree", "f", "g")]
        for first in range(3):
            sheet = Sheet(Dialect(8, 0))
            sheet.set_column("a", Column(1, 1))
            sheet.set_formula("f", A + 1)
            sheet.set_formula("g", 1 + A)
            order = told[first:] + told[:first]
            for one in order:
                sheet.promise(one)
            with self.assertRaises(Broken) as caught:
                sheet.set_formula("f", (A * Worth(1, 6)) * Worth(1, 2) + 2)
            self.assertEqual(caught.exception.told, order[0])

    def test_a_promise_that_stands_already_stays_at_its_place(self):
        sheet = small_sheet()
        made = [("near", "g", Worth(10, 1)), ("safe", "f"), ("agree", "g", "g")]
        for told in made + made[::-1] + [("near", "g", Worth(1))]:
            self.assertIsNone(sheet.promise(told))
        self.assertEqual(sheet.promises(), made)
        for _ in range(4):
            self.assertTrue(sheet.undo())
            self.assertEqual(sheet.promises(), made)
        self.assertTrue(sheet.undo())
        self.assertEqual(sheet.promises(), made[:2])

    def test_errors_below_0(self):
        sheet = small_sheet()
        for name in ("f", "g"):
            self.assertFalse(sheet.holds(("near", name, Worth(-1, 3))))
            with self.assertRaises(Broken) as caught:
                sheet.promise(("near", name, Worth(-1, 3)))
            self.assertEqual(sorted(caught.exception.worths), ["a", "b"])

    def test_release(self):
        sheet = small_sheet()
        sheet.promise(("safe", "f"))
        sheet.promise(("near", "g", Worth(1)))
        self.refused(BadPromise, {"told": ("near", "g", Worth(2))}, sheet.release, ("near", "g", Worth(2)))
        self.assertIsNone(sheet.release(told=("near", "g", Worth(1))))
        self.assertEqual(sheet.promises(), [("safe", "f")])
        self.refused(BadPromise, {"told": ("near", "g", Worth(1))}, sheet.release, ("near", "g", Worth(1)))
        self.refused(BadPromise, {"told": ["safe", "f"]}, sheet.release, ["safe", "f"])

    def test_told_alike_by_all_modules(self):
        """What is safe, over or lost is told the same by working, first_event, first_over, losing, stray and a sheet."""
        chance = random.Random(72)
        seen = {True: 0, False: 0}
        while min(seen.values()) < 12:
            shaped, _ = chance_linear_pair(chance)
            every = all_worths(shaped.columns(), shaped.formula.names())
            if len(every) > 1200 or not is_plain(shaped) or any(row[0] == "quotient" for row in shaped.formula.rows):
                continue
            sheet = Sheet(shaped.dialect)
            for name, told in shaped.columns().items():
                sheet.set_column(name, told)
            sheet.set_formula("f", shaped.formula)
            runs = [work(shaped, worths) for worths in every]
            is_good = not any(run.events for run in runs)
            seen[is_good] += 1
            self.assertIs(is_safe(shaped), is_good)
            self.assertIs(sheet.holds(("safe", "f")), is_good)
            over = first_over(shaped)
            self.assertEqual(None if over is None else over[0], first_over_step(shaped, every))
            steps = range(shaped.formula.size if over is None else over[0] + 1)
            words = [row[0] for row in shaped.formula.rows]
            lost = [step for step in steps if words[step] not in ("cast", "round") and losing(shaped, step) is not None]
            self.assertEqual(is_good, over is None and lost == [])
            event = first_event(shaped)
            if event is not None:
                self.assertEqual(event.step, min(lost + ([over[0]] if over else [])))
                self.assertEqual("lost" in event.kinds, event.step in lost)
            if is_good and words[-1] not in ("cast", "round"):
                self.assertEqual([worth for worth, _ in stray(shaped)], [Worth(0), Worth(0)])
                self.assertTrue(sheet.holds(("near", "f", Worth(0))))


class Attempts(Case):

    def test_promises_are_looked_at_behind_it_only(self):
        sheet = small_sheet()
        sheet.promise(("agree", "f", "f"))
        sheet.set_formula("h", A + B)
        sheet.promise(("agree", "f", "h"))
        with self.assertRaises(Broken):
            sheet.set_formula("h", A + 2)
        self.assertIsNone(sheet.attempt(lambda it: [it.set_formula("h", A + 2), it.set_formula("f", 2 + A)]))
        self.assertEqual(sheet.formulas()["h"], A + 2)
        self.assertTrue(sheet.undo())
        self.assertEqual(sheet.formulas()["f"], A + B)
        self.assertEqual(sheet.formulas()["h"], A + B)

    def test_errors_of_any_kind_take_all_back(self):
        sheet = small_sheet()
        sheet.promise(("safe", "f"))
        before = state_of(sheet)

        def fail(error):
            def action(it):
                self.assertIs(it, sheet)
                it.set_column("c", Column(1, 0))
                it.release(("safe", "f"))
                it.undo()
                it.drop("g")
                raise error
            return action

        for error in (KeyError("x"), SystemExit(3), KeyboardInterrupt(), ValueError(), BadValue(1), StopIteration()):
            with self.assertRaises(type(error)) as caught:
                sheet.attempt(fail(error))
            self.assertIs(caught.exception, error)
            self.assertEqual(state_of(sheet), before)
        for deed in (lambda it: it.set_column("a", Column(6, 0)), lambda it: it.set_formula("f", A * A)):
            with self.assertRaises((Broken, NotPlain)):
                sheet.attempt(lambda it: [it.drop("g"), deed(it)])
            self.assertEqual(state_of(sheet), before)
        with self.assertRaises(TypeError):
            sheet.attempt(None)
        self.assertTrue(sheet.undo())
        self.assertEqual(sheet.promises(), [])
        with self.assertRaises(Broken):
            sheet.promise(("near", "g", Worth(-1)))

    def test_three_deep(self):
        sheet = small_sheet()
        sheet.set_formula("h", A + B)
        sheet.promise(("agree", "f", "h"))
        steps = []

        def inner(it):
            it.set_formula("h", A - B)
            steps.append(it.undo())
            steps.append(it.undo())
            it.set_formula("h", 2 + A)
            raise KeyError("inner")

        def middle(it):
            it.set_formula("f", A + 2)
            with self.assertRaises(KeyError):
                it.attempt(inner)
            self.assertEqual(it.formulas()["h"], A + B)
            it.attempt(lambda deep: deep.set_formula("h", A + 2))
            self.assertFalse(it.holds(("agree", "f", "g")))

        def outer(it):
            steps.append(it.undo())
            it.attempt(middle)
            self.assertEqual(it.formulas()["h"], A + 2)
            steps.append(it.undo())
            self.assertEqual(it.formulas()["h"], A + B)
            steps.append(it.undo())
            it.attempt(middle)

        sheet.attempt(outer)
        self.assertEqual(steps, [False, True, False, True, False, True, False])
        self.assertEqual(sheet.formulas()["h"], A + 2)
        self.assertTrue(sheet.undo())
        self.assertEqual(sheet.formulas()["h"], A + B)
        self.assertEqual(sheet.formulas()["f"], A + B)

    def test_promises_made_within(self):
        sheet = small_sheet()
        with self.assertRaises(Broken) as caught:
            sheet.attempt(lambda it: it.attempt(lambda deep: deep.promise(("near", "g", Worth(-1)))))
        self.assertEqual(caught.exception.told, ("near", "g", Worth(-1)))
        self.assertEqual(sheet.promises(), [])
        sheet.attempt(lambda it: [it.promise(("near", "g", Worth(-1))), it.release(("near", "g", Worth(-1)))])
        sheet.attempt(lambda it: [it.promise(("near", "g", Worth(-1))), it.undo()])
        sheet.attempt(lambda it: [it.promise(("near", "g", Worth(0))), it.set_formula("g", A + 2)])
        self.assertEqual(sheet.promises(), [("near", "g", Worth(0))])

    def test_attempts_that_do_nothing_count(self):
        sheet = Sheet(Dialect(6, 0))
        self.assertFalse(sheet.undo())
        sheet.attempt(action=lambda it: None)
        sheet.attempt(lambda it: it.undo())
        self.assertEqual([sheet.undo(), sheet.undo(), sheet.undo()], [True, True, False])


class Undo(Case):

    def test_deeds_that_change_nothing_count_and_refused_ones_do_not(self):
        sheet = small_sheet()
        sheet.set_column("a", Column(1, 1))
        with self.assertRaises(FigureError):
            sheet.drop("a")
        self.assertTrue(sheet.undo())
        self.assertEqual(len(sheet.formulas()), 2)
        self.assertTrue(sheet.undo())
        self.assertEqual(len(sheet.formulas()), 1)
        self.assertEqual([sheet.undo() for _ in range(4)], [True, True, True, False])
        self.assertEqual(state_of(sheet), ({}, {}, []))

    def test_beside_plain_dicts_and_lists(self):
        """Deeds by chance; what should come of them is kept in plain dicts and lists."""
        chance = random.Random(73)
        for _ in range(30):
            sheet, past = Sheet(Dialect(5, 1)), [({}, {}, [])]
            for _ in range(60):
                self.deed_by_chance(chance, sheet, past)
                self.assertEqual(state_of(sheet), past[-1])
                if past[-1][2]:
                    self.assertTrue(all(sheet.holds(told) for told in past[-1][2]))

    def deed_by_chance(self, chance, sheet, past):
        kind = chance.random()
        name, other = chance.choice("abcd"), chance.choice("fghij")
        columns, formulas, promises = [type(told)(told) for told in past[-1]]
        if kind < 0.2:
            self.assertEqual(sheet.undo(), len(past) > 1)
            if len(past) > 1:
                past.pop()
            return
        if kind < 0.35:
            told = Column(chance.randrange(3), 1, chance.choice(["signed", "unsigned"]))
            columns[name] = told
            deed = lambda: sheet.set_column(name, told)
        elif kind < 0.55:
            formula = chance.choice([A, A + B, (A * 2).rounded(0, "cut"), A - B - column("c"), B * Worth(5, 1)])
            formulas[other] = formula
            deed = lambda: sheet.set_formula(other, formula)
        elif kind < 0.65:
            gone = chance.choice([name, other])
            columns.pop(gone, None)
            formulas.pop(gone, None)
            deed = lambda: sheet.drop(gone)
        elif kind < 0.9:
            told = chance.choice([("safe", other), ("agree", other, "f"), ("equal", "f", other), ("near", other, Worth(4, 1))])
            promises = promises if told in promises else promises + [told]
            deed = lambda: sheet.promise(told)
        else:
            told = chance.choice(promises) if promises else ("safe", "f")
            promises = [kept for kept in promises if kept != told]
            deed = lambda: sheet.release(told)
        try:
            deed()
        except FigureError:
            return
        past.append((columns, formulas, promises))

    def test_many_deeds_and_promises(self):
        began = time.time()
        sheet = Sheet(Dialect(80, 10))
        for name in "abc":
            sheet.set_column(name, Column(15, 15))
        early, late = "round(0.19*a,2,halfeven)+round(0.07*b,2,halfeven)-c", "round(0.19*a+0.07*b,2,halfeven)-c"
        for number in range(8):
            sheet.set_formula("f" + "x" * number, read_formula(early if number % 2 else late))
        for number in range(0, 8, 2):
            sheet.promise(("near", "f" + "x" * number, Worth(1)))
            sheet.promise(("agree", "f", "f" + "x" * number))
            sheet.promise(("near", "fx", Worth(number + 1, 2)))
        for whole in range(10, 15):
            sheet.set_column("a", Column(whole, 15))
        self.assertEqual(len(sheet.promises()), 12)
        with self.assertRaises(Broken) as caught:
            sheet.promise(("agree", "f", "fx"))
        worths = caught.exception.worths
        self.assertNotEqual(work(sheet.shaped_of("f"), worths).result, work(sheet.shaped_of("fx"), worths).result)
        self.assertIsNotNone(parting(sheet.shaped_of("f"), sheet.shaped_of("fx")))
        for _ in range(300):
            sheet.set_column("d", Column(3, 2))
        self.assertTrue(all(sheet.undo() for _ in range(300)))
        self.assertLess(time.time() - began, 20)


if __name__ == "__main__":
    unittest.main()

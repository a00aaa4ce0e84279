"""[17], [18] and [50]: the first event of a formula, held against the working at all worths of small columns."""

import random
import unittest

from figurestay.dialects import Dialect
from figurestay.errors import NotPlain, TooWide
from figurestay.events import Event, first_event, is_safe
from figurestay.formulas import Formula, column, constant
from figurestay.shaped import Shaped
from figurestay.shapes import Column
from figurestay.ways import WAYS
from figurestay.worked import work
from figurestay.worths import Worth
from helper import Case, all_worths, chance_plain_tree, first_not_plain, rows_of

COLUMNS = {"a": Column(1, 0), "b": Column(0, 1, "unsigned"), "c": Column(1, 0, "positive"),
           "d": Column(1, 0, "unsigned"), "e": Column(0, 1)}
A, B, C, D, E = [column(name) for name in "abcde"]


def event_by_the_words(shaped):
    """The first step that has an event for some worths, and all its kinds, or None."""
    found = {}
    for worths in all_worths(shaped.columns(), shaped.formula.names()):
        for step, kind in work(shaped, worths).events:
            found.setdefault(step, set()).add(kind)
    return (min(found), found[min(found)]) if found else None


class Events(Case):

    def check(self, shaped):
        """The first event against that by the words, which is returned."""
        wanted, event = event_by_the_words(shaped), first_event(shaped)
        self.assertIs(is_safe(shaped), wanted is None)
        if wanted is None:
            self.assertIsNone(event, shaped.formula.rows)
            return None
        self.assertEqual((event.step, set(event.kinds)), wanted, (shaped.formula.rows, vars(shaped.dialect)))
        columns = shaped.columns()
        for kind, worths in event.kinds.items():
            self.assertEqual(sorted(worths), sorted(columns))
            self.assertTrue(all(columns[name].holds(worths[name]) for name in columns))
            self.assertIn((event.step, kind), work(shaped, worths).events)
            self.assertEqual(work(shaped, worths).events[0][0], event.step)
        return wanted

    def test_chance_formulas(self):
        chance, seen = random.Random(17), {}
        for _ in range(1500):
            names = sorted(chance.sample("abcde", chance.choice([1, 2, 2])))
            formula = Formula(rows_of(chance_plain_tree(chance, chance.randrange(1, 12), names)))
            cap = chance.randrange(2, 10)
            dialect = Dialect(cap, chance.randrange(cap + 1), extra=chance.randrange(2), places=chance.randrange(4),
                              way=chance.choice(WAYS))
            try:
                shaped = Shaped(formula, COLUMNS, dialect)
            except TooWide:
                continue
            if first_not_plain(shaped) is None:
                _, kinds = self.check(shaped) or (None, ())
                kinds = tuple(sorted(kinds))
                seen[kinds] = seen.get(kinds, 0) + 1
        wanted = [(), ("lost",), ("lost", "over"), ("lost", "over", "zero"), ("lost", "zero"), ("over",), ("zero",)]
        self.assertEqual(sorted(seen), wanted)
        self.assertGreater(min(seen.values()), 3)

    def test_last_quotients(self):
        tops = [A, D, 63 * A, A * 2520, constant(2520) * D, A - A, constant(0), constant(252, 1), A * constant(1, 1) + 9,
                constant(2520), D + 1, constant(5) - D]
        divisors = [B, C, E, -constant(3), constant(3), constant(7), constant(63), constant(0), -constant(0),
                    constant(30, 1), constant(7, 1), constant(15), constant(8, 3)]
        seen = {}
        for place, top in enumerate(tops):
            for number, divisor in enumerate(divisors):
                for cap, kept, places in ((40, 0, 0), (7, 2, 0), (6, 6, 3), (5, 0, 9), (9, 4, 0), (3, 1, 0)):
                    way = WAYS[(place + number + cap) % 9]
                    dialect = Dialect(cap, kept, places=places, way=way)
                    try:
                        shaped = Shaped(top.over(divisor), COLUMNS, dialect)
                    except TooWide:
                        continue
                    _, kinds = self.check(shaped) or (None, ())
                    seen[tuple(sorted(kinds))] = True
        wanted = [(), ("lost",), ("lost", "over"), ("lost", "over", "zero"), ("lost", "zero"), ("over",), ("over", "zero"),
                  ("zero",)]
        self.assertEqual(sorted(seen), wanted)

    def test_the_example_of_quotients(self):
        """63 a / c loses nothing if its scale has three figures more than a; all c are divisors of 2520."""
        columns = {"a": Column(1, 1), "c": Column(1, 0, "positive"), "w": Column(2, 0, "positive")}
        for places, is_kept in ((3, False), (4, True)):
            shaped = Shaped((63 * A).over(C), columns, Dialect(40, 0, places=places))
            self.assertEqual(shaped.shapes[-1].scale, places)
            self.assertEqual(self.check(shaped) is None, is_kept)
        lost = first_event(Shaped((63 * A).over(column("w")), columns, Dialect(90, 0, places=40)))
        self.assertEqual((lost.step, sorted(lost.kinds)), (4, ["lost"]))
        self.assertIsNone(first_event(Shaped((0 * A).over(column("w")), columns, Dialect(90, 0, places=40))))
        great = 1
        for units in range(1, 100):
            great = great * units
        shaped = Shaped((A * great).over(column("w")), columns, Dialect(200, 30, places=1))
        self.assertIsNone(first_event(shaped))

    def test_wide_divisors(self):
        columns = {"a": Column(50, 50), "c": Column(60, 40), "u": Column(100, 0, "unsigned")}
        event = first_event(Shaped(A.over(C), columns, Dialect(200, 0)))
        self.assertEqual((event.step, sorted(event.kinds)), (2, ["lost", "zero"]))
        event = first_event(Shaped((A * 10 ** 90).over(column("u")), columns, Dialect(200, 0, places=60)))
        self.assertEqual((event.step, sorted(event.kinds)), (4, ["lost", "zero"]))
        event = first_event(Shaped(A.over(C), columns, Dialect(100, 60, way="away")))
        self.assertEqual((event.step, sorted(event.kinds)), (2, ["lost", "over", "zero"]))
        worths = event.kinds["over"]
        self.assertTrue(worths["a"] in (Worth(10 ** 100 - 1, 50), Worth(1 - 10 ** 100, 50)))
        self.assertTrue(worths["c"] in (Worth(1, 40), Worth(-1, 40)))

    def test_casts_and_rounds(self):
        shaped = Shaped(B.cast(1, 0), COLUMNS, Dialect(9, 0))
        self.assertIsNone(self.check(shaped))
        self.assertEqual(self.check(Shaped((A + B).cast(1, 0), COLUMNS, Dialect(9, 0, way="away"))), (3, {"over"}))
        self.assertEqual(self.check(Shaped((A * C).cast(1, 0), COLUMNS, Dialect(9, 0))), (3, {"over"}))
        self.assertEqual(self.check(Shaped((A * C).cast(1, 0) * B, COLUMNS, Dialect(9, 0))), (3, {"over"}))
        self.assertIsNone(self.check(Shaped((A * B).cast(1, 2) * D, COLUMNS, Dialect(9, 0))))
        self.assertEqual(self.check(Shaped(B.rounded(0, "ceiling"), COLUMNS, Dialect(9, 0))), None)
        near = Shaped(column("n").rounded(1, "halfup"), {"n": Column(0, 2)}, Dialect(9, 0))
        self.assertEqual(self.check(near), (1, {"over"}))
        self.assertIsNone(self.check(near.with_formula(column("n").rounded(1, "cut"))))
        wide = Shaped(column("n").rounded(0, "away"), {"n": Column(2, 1)}, Dialect(9, 0))
        self.assertEqual(self.check(wide), (1, {"over"}))
        self.assertIsNone(self.check(wide.with_formula(column("n").rounded(1, "away"))))

    def test_caps_just_wide_enough(self):
        for formula, widest in ((A * C, 2), (A * B * C, 3), (A + B, 3), (A * constant(125, 3), 4), (A - A, 1), (A * B.over(2), 3)):
            found = [cap for cap in range(1, 12) if self.is_safe_with(formula, cap)]
            self.assertEqual(found, list(range(widest, 12)), formula.rows)

    def is_safe_with(self, formula, cap):
        try:
            shaped = Shaped(formula, COLUMNS, Dialect(cap, 0))
        except TooWide:
            return False
        return self.check(shaped) is None

    def test_forty_steps_with_eight_columns(self):
        names = "abcdefgh"
        columns = {name: Column(70, 30) for name in names}
        formula = column("a")
        for name in names[1:]:
            formula = formula * column(name).cast(70, 30)
        while formula.size < 38:
            formula = -formula + column("b")
        shaped = Shaped(formula, columns, Dialect(200, 0))
        self.assertEqual(first_event(shaped).step, 6)
        self.assertEqual(sorted(first_event(shaped).kinds), ["lost", "over"])
        narrow = Shaped(formula, {name: Column(9, 0) for name in names}, Dialect(200, 0))
        self.assertIsNone(first_event(narrow.with_formula(formula.part(20))))

    def test_event_is_equal_by_value(self):
        kinds = {"lost": {"a": Worth(1)}, "over": {"a": Worth(9)}}
        event = Event(2, kinds)
        self.assertTrue(event == Event(step=2, kinds={"over": {"a": Worth(9)}, "lost": {"a": Worth(10, 1)}}))
        self.assertFalse(event == Event(3, kinds) or event == Event(2, {"lost": {"a": Worth(1)}}))
        self.assertFalse(event == Event(2, {**kinds, "over": {"a": Worth(8)}}) or event == 2 or event == kinds)
        self.assertEqual((event.step, sorted(event.kinds)), (2, ["lost", "over"]))
        kinds["lost"]["a"] = None
        del kinds["over"]
        self.assertTrue(event.kinds["lost"]["a"] == Worth(1) and "over" in event.kinds)

    def test_refused(self):
        for call in (first_event, is_safe):
            self.refuses_all_but(lambda value: isinstance(value, Shaped), call)
            for formula, step in ((A * A, 2), (A.over(3) + A * A, 2), (A + A * A, 3), (A.over(A), 2), (B.cast(1, 0) * A, 1)):
                self.refused(NotPlain, {"step": step}, call, Shaped(formula, COLUMNS, Dialect(9, 0)))
            # The first step has an event already, a later one is not plain.
            self.refused(NotPlain, {"step": 4}, call, Shaped((A * D) * A, COLUMNS, Dialect(1, 0)))


if __name__ == "__main__":
    unittest.main()

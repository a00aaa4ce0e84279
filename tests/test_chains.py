"""[9], [14], [20], [21] (d) and [52]: safe forms, held against all orders of all chains of small formulas."""

import itertools
import random
import unittest

from figurestay.chains import barring, safe_form, spread
from figurestay.dialects import Dialect
from figurestay.errors import BadValue, NotASum, NotPlain, TooWide
from figurestay.events import is_safe
from figurestay.exacts import is_plain, unlike
from figurestay.formulas import Formula, column, constant
from figurestay.shaped import Shaped
from figurestay.shapes import Column
from helper import Case, all_orders, chance_formula, chance_plain_tree, rows_of, tree_of, values_of_all_kinds, worked_by

COLUMNS = {"a": Column(1, 0), "b": Column(0, 2, "unsigned"), "c": Column(2, 0, "positive"), "d": Column(1, 1),
           "e": Column(3, 0), "f": Column(0, 1, "positive")}
A, B, C, D, E, F = [column(name) for name in "abcdef"]
TERMS = ("sum", "difference")


def members(tree, sign=1):
    """The terms or factors of the chain that ends here, pairs (tree, sign)."""
    words = TERMS if tree[0] in TERMS else ("product",)
    found = []
    for place, part in enumerate(tree[1]):
        part_sign = -sign if tree[0] == "difference" and place == 1 else sign
        found.extend(members(part, part_sign) if part[0] in words else [(part, part_sign)])
    return found


def canonical(tree):
    """The same for all orders of a formula."""
    if tree[0] in TERMS + ("product",):
        word = "sum" if tree[0] in TERMS else "product"
        return word, tuple(sorted(repr((canonical(part), sign)) for part, sign in members(tree)))
    return tree[0], tuple(canonical(part) for part in tree[1]), tree[2]


def join_terms(one, other):
    """The sum of two signed formulas, pairs (formula, sign)."""
    if one[1] == other[1]:
        return one[0] + other[0], one[1]
    return (one[0] - other[0], 1) if one[1] == 1 else (other[0] - one[0], 1)


def other_orders(tree):
    """All other orders of a formula, Formulas."""
    if tree[0] in TERMS + ("product",):
        chain, found = members(tree), []
        for forms in itertools.product(*[other_orders(part) for part, _ in chain]):
            signed = [(form, sign) for form, (_, sign) in zip(forms, chain)]
            for order in all_orders(list(range(len(chain)))):
                if tree[0] == "product":
                    found.append(worked_by(order, forms, lambda one, other: one * other))
                else:
                    found.append(worked_by(order, signed, join_terms)[0])
        return found
    forms = [[rows_of(tree_of(form)) for form in other_orders(part)] for part in tree[1]]
    found = []
    for parts in itertools.product(*forms):
        trees = tuple(tree_of(Formula(rows)) for rows in parts)
        found.append(Formula(rows_of((tree[0], trees, tree[2]))))
    return found


def many_orders(tree):
    """How many other orders a formula has."""
    if tree[0] in TERMS + ("product",):
        chain, many = members(tree), 1
        for place in range(2, len(chain)):
            many = many * (2 * place - 1)
        parts = [part for part, _ in chain]
    else:
        many, parts = 1, tree[1]
    for part in parts:
        many = many * many_orders(part)
    return many


def last_steps_of_chains(formula):
    """The last steps of all chains."""
    inner = {}
    for row in formula.rows:
        words = TERMS if row[0] in TERMS else ("product",) if row[0] == "product" else ()
        inner.update({part: True for part in row[1:] if words and formula.rows[part][0] in words})
    return [step for step in range(formula.size) if step not in inner]


class Chains(Case):

    def check(self, shaped):
        formula, found = safe_form(shaped), barring(shaped)
        if formula is not None:
            self.assertIsNone(found)
            self.assertTrue(is_safe(shaped.with_formula(formula)), (shaped.formula.rows, formula.rows))
            self.assertEqual(canonical(tree_of(formula)), canonical(tree_of(shaped.formula)))
            return None
        for step in last_steps_of_chains(shaped.formula):
            orders = other_orders(tree_of(shaped.formula.part(step)))
            if not any(is_safe(shaped.with_formula(order)) for order in orders):
                self.assertEqual(found, step, (shaped.formula.rows, vars(shaped.dialect)))
                return step
        self.fail(shaped.formula.rows)

    def test_chance_formulas(self):
        chance, seen = random.Random(52), []
        while len(seen) < 700:
            names = sorted(chance.sample("abcdef", chance.randrange(1, 5)))
            formula = Formula(rows_of(chance_plain_tree(chance, chance.randrange(3, 11), names)))
            cap = chance.randrange(4, 11)
            dialect = Dialect(cap, chance.randrange(cap + 1), extra=chance.randrange(2), places=chance.randrange(3),
                              way=chance.choice(["halfeven", "away", "floor"]))
            try:
                shaped = Shaped(formula, COLUMNS, dialect)
            except TooWide:
                continue
            if many_orders(tree_of(formula)) < 200 and is_plain(shaped) and not is_safe(shaped):
                seen.append(self.check(shaped))
        self.assertGreater(len(seen) - seen.count(None), 200)

    def test_sums_by_chance(self):
        """Long chains of sums and products within each other, with caps at which the order matters."""
        chance, seen, helped = random.Random(53), 0, 0
        while seen < 500:
            formula = self.nest(chance, list("abcdef"), 3)
            dialect = Dialect(chance.randrange(4, 10), chance.randrange(3), extra=chance.randrange(2))
            shaped = Shaped(formula, COLUMNS, dialect)
            if many_orders(tree_of(formula)) < 200 and formula.size > 4 and not is_safe(shaped):
                helped += self.check(shaped) is None
                seen += 1
        self.assertGreater(helped, 15)

    def nest(self, chance, names, depth):
        if depth == 0 or not names or chance.random() < 0.2:
            return column(chance.choice(names)) if names else constant(chance.choice([125, 8, 1]), chance.choice([0, 3]))
        kind, many = chance.random(), chance.randrange(2, 4)
        if kind < 0.6:
            parts = [self.nest(chance, names, depth - 1) for _ in range(many)]
            formula = parts[0]
            for part in parts[1:]:
                formula = formula + part if chance.random() < 0.6 else part - formula
            return formula
        if kind < 0.7:
            return -self.nest(chance, names, depth - 1)
        half = names[::2], names[1::2]
        return self.nest(chance, half[0], depth - 1) * self.nest(chance, half[1], depth - 1)

    def test_known_chains(self):
        wide = {name: Column(5, 2) for name in "pqrs"}
        p, q, r, s = [column(name) for name in "pqrs"]
        row = Shaped(p + q + r + s, wide, Dialect(9, 0))
        self.assertFalse(is_safe(row))
        self.assertTrue(is_safe(row.with_formula(safe_form(row))))
        self.assertIsNone(barring(row))
        tight = Shaped(row.formula, wide, Dialect(8, 0))
        self.assertEqual((safe_form(tight), barring(tight)), (None, 6))
        # Terms that are taken away once, twice and three times.
        for formula in (p - q - r - s, p - (q - (r - s)), p - (q + r) - s, p - (q - r - s)):
            for cap in (8, 9):
                self.assertEqual(self.check(Shaped(formula, wide, Dialect(cap, 0))), 6 if cap == 8 else None)
        # A negative ends a chain: each of the two chains has an order of its own.
        self.assertEqual(self.check(Shaped(-(p + q + r) + s, wide, Dialect(8, 0))), 4)
        self.assertIsNone(self.check(Shaped(-(p + q) + r + -(-s), wide, Dialect(9, 0))))
        self.assertEqual(self.check(Shaped((p + q).cast(6, 2) + r + s, wide, Dialect(8, 0))), 7)

    def test_no_chains(self):
        for formula in (A, constant(5), A.cast(2, 1), -B, A.over(B), A.over(0)):
            for cap in (3, 9):
                self.check(Shaped(formula, {"a": Column(1, 0), "b": Column(0, 2)}, Dialect(cap, 0)))
        self.assertEqual(barring(Shaped(A.over(0), COLUMNS, Dialect(9, 0))), 2)
        self.assertEqual(barring(Shaped(C.cast(1, 0), COLUMNS, Dialect(9, 0))), 1)
        self.assertTrue(safe_form(Shaped(A, COLUMNS, Dialect(9, 0))) == A)

    def test_factors_in_another_order(self):
        product = A * constant(125, 3) * constant(8)
        shaped = Shaped(product, COLUMNS, Dialect(4, 0))
        self.assertIsNone(self.check(shaped))
        late = Shaped((D * constant(125, 3)) * constant(8) + E, COLUMNS, Dialect(6, 0))
        self.check(late)
        self.assertEqual(barring(Shaped(C * E * A, COLUMNS, Dialect(5, 0))), 4)
        self.assertEqual(barring(Shaped(C * E * A * 0, COLUMNS, Dialect(5, 0))), None)
        self.assertIsNone(self.check(Shaped(C * E * A * 0, COLUMNS, Dialect(5, 0))))

    def test_last_steps_that_round(self):
        for formula in ((C + E + A + D).rounded(0, "away"), (C + E + A + D).cast(4, 0), (C + E + A).over(F),
                        (C + E + A).over(3), (C * D * F).rounded(1, "halfup")):
            for cap in range(4, 12):
                for kept in (0, 1, 3):
                    self.check(Shaped(formula, COLUMNS, Dialect(cap, kept, places=2, way="halfaway")))

    def test_eight_terms_of_eight_columns_in_forty_steps(self):
        names = "abcdefgh"
        columns = {name: Column(47 - place, 30) for place, name in enumerate(names)}
        formula = column("a")
        for name in names[1:]:
            formula = formula + column(name) * 3
        shaped = Shaped(formula * 2, columns, Dialect(82, 0))
        self.assertTrue(formula.size >= 29 and is_safe(shaped.with_formula(safe_form(shaped))))
        self.assertFalse(is_safe(shaped))
        shaped = Shaped(formula * 2 - column("h") * 7 - column("g") * 4, columns, Dialect(82, 0))
        self.assertEqual(shaped.formula.size, 39)
        found = safe_form(shaped)
        self.assertIs(found is None, barring(shaped) is not None)
        self.assertIsNotNone(safe_form(Shaped(shaped.formula, columns, Dialect(90, 0))))

    def test_refused(self):
        for call in (safe_form, barring):
            self.refuses_all_but(lambda value: isinstance(value, Shaped), call)
            for formula, step in ((A * A, 2), (A + A.over(3), 3), (B.rounded(0, "cut") + A * A, 1)):
                self.refused(NotPlain, {"step": step}, call, Shaped(formula, COLUMNS, Dialect(9, 0)))
            self.refused(NotPlain, {"step": 4}, call, Shaped((A * D) * A, COLUMNS, Dialect(3, 0)))


class Spread(Case):

    def test_sides(self):
        sums = {"sum": B + C, "difference": B - C}
        for word, told in sums.items():
            def joined(one, other, word=word):
                return one + other if word == "sum" else one - other
            self.assertTrue(spread(A * told, 4) == joined(A * B, A * C))
            self.assertTrue(spread(told * A, 4) == joined(B * A, C * A))
            self.assertTrue(spread((D + E) * told, 6) == joined((D + E) * B, (D + E) * C))
            self.assertTrue(spread(told * (D * E), 6) == joined(B * (D * E), C * (D * E)))
            self.assertTrue(spread((D + E) * -told, 7) == D * -told + E * -told)
            self.assertTrue(spread(7 - -(A * told).cast(2, 1), 5) == 7 - -joined(A * B, A * C).cast(2, 1))
        formula = A * (B + C) * (D - E)
        self.assertTrue(spread(formula, 4) == (A * B + A * C) * (D - E))
        self.assertTrue(spread(formula, 8) == A * (B + C) * D - A * (B + C) * E)
        self.assertTrue(spread(formula=formula, step=8).size == 15)
        self.assertTrue(formula == A * (B + C) * (D - E))

    def test_chance_formulas(self):
        chance, spread_out = random.Random(55), 0
        for _ in range(1000):
            formula = chance_formula(chance, chance.randrange(3, 16))
            for step, row in enumerate(formula.rows):
                words = [formula.rows[part][0] for part in row[1:]] if row[0] == "product" else []
                if not set(words) & set(TERMS):
                    self.refused(NotASum, {"step": step}, spread, formula, step)
                    continue
                self.check(formula, step, spread(formula, step))
                spread_out += 1
        self.assertGreater(spread_out, 300)

    def check(self, formula, step, found):
        left, right = [formula.part(part) for part in formula.parts(step)]
        if right.rows[-1][0] in TERMS:
            word, parts = right.rows[-1][0], [left * right.part(part) for part in right.parts(right.size - 1)]
        else:
            word, parts = left.rows[-1][0], [left.part(part) * right for part in left.parts(left.size - 1)]
        joined = parts[0] + parts[1] if word == "sum" else parts[0] - parts[1]
        self.assertTrue(found == formula.replaced(step, joined))

    def test_results_stay(self):
        shaped = Shaped((A - B) * (C + D) * E, COLUMNS, Dialect(30, 0))
        once = spread(shaped.formula, 6)
        self.assertIsNone(unlike(shaped, shaped.with_formula(once)))
        self.assertIsNotNone(unlike(shaped, shaped.with_formula(once + 1)))

    def test_refused(self):
        formula = A * (B + C) + D
        self.refuses_all_but(lambda value: isinstance(value, Formula), lambda value: spread(value, 4))
        for value in values_of_all_kinds() + [5, 6, -3, 4.0]:
            if value != 4 or value is True or isinstance(value, float):
                with self.assertRaises(NotASum) as caught:
                    spread(formula, value)
                self.assertIs(caught.exception.step, value)
        self.refused(BadValue, {"value": None}, spread, None, None)


if __name__ == "__main__":
    unittest.main()

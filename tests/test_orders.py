"""[19], [20], [21] and [51]: orders of sums and products, held against all orders of few terms and factors."""

import itertools
import operator
import random
import unittest

from figurestay.dialects import Dialect
from figurestay.errors import BadValue, NoColumn, NotPlain, TooWide, WideColumn
from figurestay.events import is_safe
from figurestay.exacts import is_plain
from figurestay.formulas import Formula, column, constant
from figurestay.orders import (
    best_whole, joined, joined_in_row, least_whole, least_whole_in_row, reached, safe_product, safe_sum,
    safe_sum_in_row
)
from figurestay.shaped import Shaped
from figurestay.shapes import Column
from figurestay.worths import Worth
from helper import Case, all_brackets, all_orders, chance_plain_tree, leaves, rows_of, tree_of, worked_by

COLUMNS = {"a": Column(1, 0), "b": Column(0, 2, "unsigned"), "c": Column(2, 0, "positive"), "d": Column(1, 1),
           "e": Column(3, 0), "f": Column(0, 1, "positive")}
A, B, C, D, E, F = [column(name) for name in "abcdef"]


def whole_of(order, wholes):
    if isinstance(order, tuple):
        return max(whole_of(order[0], wholes), whole_of(order[1], wholes)) + 1
    return wholes[order]


def in_line(formulas, join):
    line = formulas[0]
    for formula in formulas[1:]:
        line = join(line, formula)
    return line


def shape_of_tree(formula, formulas, word):
    """Which formulas a joined one is made of, as an order of their indexes, each used once."""
    left = [(tree_of(told), index) for index, told in enumerate(formulas)]

    def found(tree):
        for place, (told, index) in enumerate(left):
            if told == tree:
                del left[place]
                return index
        if tree[0] != word:
            raise AssertionError(tree)
        return found(tree[1][0]), found(tree[1][1])

    return found(tree_of(formula))


class Wholes(Case):

    def check(self, wholes):
        indexes = list(range(len(wholes)))
        for trees, least, order in ((all_orders(indexes), least_whole, joined),
                                    (all_brackets(indexes), least_whole_in_row, joined_in_row)):
            wanted = min(whole_of(tree, wholes) for tree in trees)
            self.assertEqual(least(wholes), wanted, wholes)
            self.assertIs(type(least(wholes)), int)
            self.assertEqual(whole_of(order(wholes), wholes), wanted, wholes)
            self.assertEqual(sorted(leaves(order(wholes))), indexes)
        self.assertEqual(leaves(joined_in_row(wholes)), indexes)

    def test_all_small_lists(self):
        for many in range(1, 5):
            for wholes in itertools.product(range(4), repeat=many):
                self.check(list(wholes))
        for wholes in itertools.combinations_with_replacement(range(3), 6):
            self.check(wholes)

    def test_by_chance(self):
        chance = random.Random(51)
        for _ in range(60):
            self.check([chance.randrange(7) for _ in range(chance.randrange(5, 7))])

    def test_powers_of_two(self):
        """By [21] (b) the least one is the least W with the sum of the 2 ** i at most 2 ** W."""
        chance = random.Random(52)
        for _ in range(300):
            wholes = [chance.randrange(chance.choice([1, 3, 40])) for _ in range(chance.randrange(1, 61))]
            wanted = (sum(1 << whole for whole in wholes) - 1).bit_length()
            self.assertEqual(least_whole(wholes), wanted)
            self.assertEqual(whole_of(joined(wholes), wholes), wanted)
            self.assertEqual(sorted(leaves(joined(wholes))), list(range(len(wholes))))

    def test_one_and_sixty_and_great_ones(self):
        self.assertEqual((least_whole([7]), joined([7]), least_whole_in_row((7,)), joined_in_row((7,))), (7, 0, 7, 0))
        wholes = [10 ** 6 - place % 7 for place in range(60)]
        kept = list(wholes)
        self.assertEqual(least_whole(wholes), 10 ** 6 + 5)
        self.assertEqual(whole_of(joined_in_row(wholes), wholes), least_whole_in_row(wholes))
        self.assertEqual(leaves(joined_in_row(wholes)), list(range(60)))
        self.assertEqual(wholes, kept)
        self.assertEqual(least_whole_in_row([10 ** 6] + [0] * 59), 10 ** 6 + 1)
        # A stair goes up in a row from one end, and must be climbed from inside if it has two sides.
        self.assertEqual(least_whole_in_row([0, 0, 1, 2, 3, 4]), 5)
        self.assertEqual((least_whole([3, 0, 3, 0, 3]), least_whole_in_row([3, 0, 3, 0, 3])), (5, 6))


class Sums(Case):

    def check(self, terms, dialect):
        """best_whole, safe_sum and safe_sum_in_row against all orders; what best_whole says is returned."""
        indexes = list(range(len(terms)))
        shaped = Shaped(in_line(terms, operator.add), COLUMNS, dialect)
        wholes = []
        for order in all_orders(indexes):
            told = shaped.with_formula(worked_by(order, terms, operator.add))
            if is_safe(told):
                wholes.append(told.uncapped[-1].whole)
        wanted = min(wholes, default=None)
        self.assertEqual(best_whole(terms, COLUMNS, dialect), wanted, [term.rows for term in terms])
        in_row = [worked_by(order, terms, operator.add) for order in all_brackets(indexes)]
        for call, is_there in ((safe_sum, wholes), (safe_sum_in_row, [
                formula for formula in in_row if is_safe(shaped.with_formula(formula))])):
            formula = call(terms, COLUMNS, dialect)
            self.assertEqual(formula is not None, bool(is_there), [term.rows for term in terms])
            if formula is not None:
                self.assertTrue(is_safe(shaped.with_formula(formula)))
                order = shape_of_tree(formula, terms, "sum")
                self.assertEqual(sorted(leaves(order)), indexes)
                self.assertTrue(call == safe_sum or formula in in_row)
        return wanted

    def test_columns_alone(self):
        seen = {}
        for many in (2, 3, 4):
            for terms in itertools.combinations_with_replacement([A, B, D, E, constant(125, 3)], many):
                for cap, kept in ((5, 0), (5, 3), (6, 2), (7, 3)):
                    seen[self.check(list(terms), Dialect(cap, kept))] = True
        self.assertIn(None, seen)
        self.assertGreaterEqual(len(seen), 5)

    def test_chance_terms(self):
        chance, seen = random.Random(53), {}
        while len(seen) < 250:
            terms = []
            for _ in range(chance.randrange(2, 5)):
                names = sorted(chance.sample("abcdef", 2))
                terms.append(Formula(rows_of(chance_plain_tree(chance, chance.choice([1, 1, 1, 3, 4]), names, False))))
            cap = chance.randrange(4, 10)
            dialect = Dialect(cap, chance.randrange(cap + 1), extra=chance.randrange(2), places=chance.randrange(3))
            try:
                shaped = Shaped(in_line(terms, operator.add), COLUMNS, dialect)
            except TooWide:
                continue
            if is_plain(shaped):
                seen[len(seen)] = self.check(terms, dialect)
        found = list(seen.values())
        self.assertTrue(found.count(None) > 30 and len(found) - found.count(None) > 30)

    def test_the_example(self):
        columns = {name: Column(5, 2) for name in "pqrs"}
        terms = [column(name) for name in "pqrs"]
        self.assertEqual([best_whole(terms, columns, Dialect(cap, 0)) for cap in (10, 9, 8)], [7, 7, None])
        self.assertIsNone(safe_sum(terms, columns, Dialect(8, 0)))
        self.assertTrue(safe_sum(terms, columns, Dialect(9, 0)) is not None)
        self.assertTrue(safe_sum_in_row(terms, columns, Dialect(9, 0)) == (terms[0] + terms[1]) + (terms[2] + terms[3]))

    def test_an_order_that_is_no_row(self):
        terms = [A, E, A]
        self.assertIsNotNone(safe_sum(terms, COLUMNS, Dialect(4, 0)))
        self.assertEqual(best_whole(terms, COLUMNS, Dialect(4, 0)), 4)
        dialect = Dialect(5, 1)
        terms = [D, E, D, D]
        self.assertEqual(self.check(terms, dialect), 4)

    def test_terms_that_cancel(self):
        self.check([E, -E, B], Dialect(5, 0))
        self.check([E, B, -E, -E], Dialect(5, 2))
        self.check([E - E, B, D], Dialect(5, 0))

    def test_eight_terms(self):
        names = "abcdefgh"
        columns = {name: Column(60 + place, 40 - place) for place, name in enumerate(names)}
        terms = [column(name) for name in names]
        self.assertEqual(best_whole(terms, columns, Dialect(200, 0)), 68)
        self.assertIsNone(best_whole(terms, columns, Dialect(107, 0)))
        self.assertEqual(best_whole(terms, columns, Dialect(108, 0)), 68)
        formula = safe_sum(terms, columns, Dialect(108, 0))
        self.assertTrue(is_safe(Shaped(formula, columns, Dialect(108, 0))))
        self.assertEqual(sorted(leaves(shape_of_tree(formula, terms, "sum"))), list(range(8)))
        self.assertIsNotNone(safe_sum_in_row(terms, columns, Dialect(108, 0)))
        self.assertIsNone(safe_sum_in_row(terms[::-1] + terms[:2], columns, Dialect(107, 0)))


class Products(Case):

    def check(self, factors, dialect):
        indexes = list(range(len(factors)))
        shaped = Shaped(in_line(factors, operator.mul), COLUMNS, dialect)
        wanted = []
        for many in range(2, len(factors) + 1):
            for chosen in itertools.combinations(indexes, many):
                formulas = [worked_by(order, factors, operator.mul) for order in all_orders(chosen)]
                parts_safe = all(is_safe(shaped.with_formula(factor)) for factor in factors)
                if parts_safe and any(is_safe(shaped.with_formula(formula)) for formula in formulas):
                    wanted.append(chosen)
        self.assertEqual(reached(factors, COLUMNS, dialect), sorted(wanted), [factor.rows for factor in factors])
        formula = safe_product(factors, COLUMNS, dialect)
        self.assertEqual(formula is not None, tuple(indexes) in wanted)
        if formula is not None:
            self.assertTrue(is_safe(shaped.with_formula(formula)))
            self.assertEqual(sorted(leaves(shape_of_tree(formula, factors, "product"))), indexes)
        return len(wanted)

    def test_constants_that_help(self):
        seen = {}
        factors = [A, B, constant(125, 3), constant(8), constant(8, 3), constant(0), constant(100), constant(1, 2)]
        for many in (2, 3, 4):
            for chosen in itertools.combinations(factors, many):
                for cap, kept, extra in ((4, 0, 0), (6, 2, 1), (8, 3, 0)):
                    seen[many, self.check(list(chosen), Dialect(cap, kept, extra=extra))] = True
        self.assertTrue((2, 0) in seen and (4, 2) in seen and (4, 11) in seen)

    def test_chance_factors(self):
        chance, seen = random.Random(54), []
        while len(seen) < 200:
            names, factors = list("abcdef"), []
            chance.shuffle(names)
            for place in range(chance.randrange(2, 5)):
                size = chance.choice([1, 1, 3, 4])
                factors.append(Formula(rows_of(chance_plain_tree(chance, size, [names[place]], False))))
            cap = chance.randrange(3, 12)
            dialect = Dialect(cap, chance.randrange(cap + 1), extra=chance.randrange(2), places=chance.randrange(3))
            try:
                shaped = Shaped(in_line(factors, operator.mul), COLUMNS, dialect)
            except TooWide:
                continue
            if is_plain(shaped):
                seen.append(self.check(factors, dialect))
        self.assertTrue(seen.count(0) > 20 and len(seen) - seen.count(0) > 50)

    def test_eight_factors(self):
        names = "abcdefgh"
        columns = {name: Column(6, 4) for name in names}
        factors = [column(name) for name in names]
        self.assertEqual(len(reached(factors, columns, Dialect(80, 0))), 2 ** 8 - 1 - 8)
        self.assertEqual(len(reached(factors, columns, Dialect(79, 0))), 2 ** 8 - 2 - 8)
        self.assertIsNone(safe_product(factors, columns, Dialect(79, 0)))
        self.assertIsNotNone(safe_product(factors, columns, Dialect(80, 0)))
        wide = {name: Column(60, 40) for name in names}
        self.assertEqual(len(reached(factors, wide, Dialect(200, 0))), 28)


class Refusals(Case):

    calls = [best_whole, safe_sum, safe_sum_in_row, reached, safe_product]

    def nothing(self, call, parts, columns, dialect):
        found = call(parts, columns, dialect)
        self.assertTrue(found == [] if call is reached else found is None)

    def test_a_part_that_is_not_safe_itself(self):
        for call in self.calls:
            for bad in (A + E, C * constant(100), (D * 2).cast(1, 1), D * constant(111, 3), C.cast(1, 0)):
                self.nothing(call, [bad, B, F], COLUMNS, Dialect(3, 0))
                self.nothing(call, [B, bad], COLUMNS, Dialect(3, 0))
                self.nothing(call, [B, F, bad], COLUMNS, Dialect(3, 0))

    def test_errors_of_shaped_then_not_plain(self):
        dialect = Dialect(5, 0)
        for call in self.calls:
            self.refuses_all_but(lambda value: isinstance(value, dict) and all(
                isinstance(told, Column) for told in value.values()), lambda value: call([A, B], value, dialect))
            self.refuses_all_but(lambda value: isinstance(value, Dialect), lambda value: call([A, B], COLUMNS, value))
            self.refused(WideColumn, {"name": "e"}, call, [A * A, column("z")], COLUMNS, Dialect(2, 0))
            self.refused(NoColumn, {"name": "z"}, call, [A * A, column("z"), constant(10 ** 9)], COLUMNS, dialect)
            self.refused(TooWide, {"step": 3}, call, [A * A, constant(10 ** 9)], COLUMNS, dialect)
            self.refused(NotPlain, {"step": 2}, call, [A * A, B], COLUMNS, dialect)
            self.refused(NotPlain, {"step": 3}, call, [B, A.over(3)], COLUMNS, dialect)
            self.refused(NotPlain, {"step": 4}, call, [B, C, B.rounded(0, "cut")], COLUMNS, dialect)
            self.refused(NotPlain, {"step": 5}, call, [B, C, A.over(F)], COLUMNS, dialect)
            self.refused(NotPlain, {"step": 2}, call, [A.over(3), A.over(3), A * A], COLUMNS, dialect)
        for call in (reached, safe_product):
            self.refused(NotPlain, {"step": 4}, call, [A, B, A], COLUMNS, dialect)
            self.refused(NotPlain, {"step": 2}, call, [A, A, B], COLUMNS, dialect)
        self.assertEqual(best_whole([A, B, A], COLUMNS, dialect), 3)
        self.refused(BadValue, {"value": None}, safe_sum, [A, B], None, None)

    def test_nothing_is_changed(self):
        parts, columns = [A, B, C], dict(COLUMNS)
        for call in self.calls:
            call(parts, columns, Dialect(9, 0))
            self.assertTrue(call(tuple(parts), columns=columns, dialect=Dialect(9, 0)) is not None)
        self.assertEqual((len(parts), list(columns)), (3, list(COLUMNS)))
        self.assertTrue(parts[0] == A and str(Worth(1)) == "1")
        found = reached(parts, columns, Dialect(9, 0))
        self.assertEqual(found, [(0, 1), (0, 1, 2), (0, 2), (1, 2)])
        self.assertTrue(all(type(told) is tuple for told in found))


if __name__ == "__main__":
    unittest.main()

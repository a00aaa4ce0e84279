"""[14]: the step that is told first by all functions that ask for plain formulas."""

import unittest

from figurestay.caps import least_cap, widest, widest_pairs
from figurestay.casts import cast_at, fewest_casts
from figurestay.chains import barring, safe_form
from figurestay.dialects import Dialect
from figurestay.errors import Divides, NotPlain
from figurestay.events import first_event, is_safe
from figurestay.exacts import exact_range, finer, is_plain, true_shape, unlike
from figurestay.formulas import column, constant
from figurestay.orders import best_whole, reached, safe_product, safe_sum, safe_sum_in_row
from figurestay.shaped import Shaped
from figurestay.shapes import Column
from helper import Case, first_not_plain

COLUMNS = {"a": Column(1, 0), "b": Column(0, 1, "unsigned"), "c": Column(1, 0, "positive")}
A, B, C = [column(name) for name in "abc"]

# Formulas with their first steps that are not as [14] says.
WRONG = [
    (A * A, 2), (A * B * (C + A), 6), (A.over(A), 2), ((A + B).over(A), 4), (A.over(B + C), 4), (A.over(-B), 3),
    (A.over(B) + C, 2), (-A.over(B), 2), (A.over(3) * B, 2), (A.over(0) - 1, 2), (A.over(3).cast(9, 9), 2),
    (A.over(constant(7, 2)).rounded(1, "cut"), 2), (A.over(constant(2) * 2), 4), (A.over(-(-constant(2))), 4),
    (A.over(constant(2).cast(1, 0)), 3), (B.cast(5, 0) + A, 1), (B.rounded(0, "halfeven") * A, 1), (-(A * B).cast(9, 0), 3),
    (A.over(8).cast(5, 2) + B, 3), ((A * constant(125, 3)).rounded(2, "away") + 1, 3), (B.cast(5, 0) * (A * A), 1),
]

# Formulas that are plain, though a like one is not.
PLAIN = [
    A * B, A.over(B), A.over(3), A.over(0), A.over(-constant(3)), A.over(-constant(8)) * B, B.cast(5, 1) + A,
    B.rounded(1, "cut") * A, (A * B).cast(9, 0), (A * constant(125, 3) * 8).rounded(0, "cut") + B, (A - A).over(B),
    A.over(8).cast(5, 3) + B, (B - B).cast(1, 0) + A, A.over(constant(5120, 4)) - 1,
]


def shaped_of(formula):
    return Shaped(formula, COLUMNS, Dialect(40, 3))


def calls_of_all():
    """Each function that asks for a plain formula and takes a Shaped, as a call of one argument."""
    other = shaped_of(A)
    return [
        lambda shaped: exact_range(shaped, shaped.formula.size - 1),
        lambda shaped: true_shape(shaped, shaped.formula.size - 1),
        lambda shaped: finer(shaped, shaped.formula.size - 1, 400),
        lambda shaped: unlike(shaped, shaped), lambda shaped: unlike(other, shaped), lambda shaped: unlike(shaped, other),
        first_event, is_safe, safe_form, barring, lambda shaped: cast_at(shaped, []), fewest_casts, least_cap,
        lambda shaped: widest(shaped, "nobody"), lambda shaped: widest_pairs(shaped, "nobody", "nobody"),
    ]


class Plain(Case):

    def test_formulas_that_are_not_plain(self):
        for formula, step in WRONG:
            shaped = shaped_of(formula)
            self.assertEqual(first_not_plain(shaped), step)
            self.assertIs(is_plain(shaped), False)
            for call in calls_of_all():
                self.refused(NotPlain, {"step": step}, call, shaped)

    def test_terms_and_factors(self):
        """The step is one of the sum or product from left to right."""
        one = constant(1)
        for formula, step in WRONG:
            for call in (best_whole, safe_sum, safe_sum_in_row, reached, safe_product):
                self.refused(NotPlain, {"step": step}, call, [formula, one], COLUMNS, Dialect(40, 3))
                self.refused(NotPlain, {"step": step + 1}, call, [one, formula], COLUMNS, Dialect(40, 3))
                self.refused(NotPlain, {"step": step + 3}, call, (one, one, formula, A * A), COLUMNS, Dialect(40, 3))

    def test_plain_formulas(self):
        for formula in PLAIN:
            shaped = shaped_of(formula)
            self.assertIsNone(first_not_plain(shaped))
            self.assertIs(is_plain(shaped), True)
            self.assertIn(is_safe(shaped), (True, False))

    def test_the_last_step_is_that_of_the_whole_formula(self):
        for formula, step in ((A.over(3) + 1, 2), (A.over(B) + 1, 2), (B.cast(5, 0) + 1, 1), (-B.rounded(0, "cut"), 1)):
            shaped, alone = shaped_of(formula), shaped_of(formula.part(step))
            for call in (exact_range, true_shape, lambda told, number: finer(told, number, 0)):
                self.refused(NotPlain, {"step": step}, call, shaped, step)
                call(shaped, 0)
                if formula.rows[step][0] == "quotient":
                    self.refused(Divides, {"step": step}, call, alone, step)
                else:
                    call(alone, step)

    def test_a_step_that_does_not_lead_to_the_one_asked(self):
        shaped = shaped_of(A * A + (B + C))
        for step in (2, 3, 4, 5, 6):
            self.refused(NotPlain, {"step": 2}, exact_range, shaped, step)
        self.assertEqual([str(end[0]) for end in exact_range(shaped, 1)], ["-9", "9"])


if __name__ == "__main__":
    unittest.main()

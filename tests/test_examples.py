"""The examples of the document, in its order; names and imports of earlier ones are used again."""

import unittest

EXAMPLES = """
>>> from figurestay.worths import Worth, compare, read_figures, read_worth
>>> worth = Worth(150, 2)
>>> [worth.units, worth.scale, worth.text(3), worth.units_at(2), str(2 - worth * worth), worth == read_worth("1.500"), read_figures("0.10"), str(Worth(-5, 2))]
[15, 1, '1.500', 150, '-0.25', True, (10, 2), '-0.05']
>>> [compare(Worth(3), worth), compare(worth, Worth(15, 1)), compare(Worth(0), worth)]
[1, 0, -1]
>>> worth.text(0)
raises TooFine(scale=1)
>>> read_figures("05")
raises BadValue(value='05')
>>> from figurestay.ways import WAYS, divided, rounded, rounded_quotient, shown_as
>>> [[divided(number, 10, way) for way in WAYS] for number in (-25, 35)]
[[-3, -2, -2, -3, -2, -3, -2, -3, -2], [3, 4, 3, 4, 4, 3, 4, 4, 3]]
>>> [str(rounded(Worth(-1249, 3), 1, "halfaway")), str(rounded_quotient(Worth(1), Worth(-3), 2, "floor")), shown_as(Worth(5, 1), 0, 1, "cut")]
['-1.2', '-0.34', None]
>>> [[str(end) for end in shown_as(Worth(units), 0, 1, "halfeven")] for units in (0, 1)]
[['-0.5', '0.5'], ['0.6', '1.4']]
>>> from figurestay.shapes import Column, Shape, least_shape
>>> shape = Shape(1, 2)
>>> [shape.width, str(shape.greatest()), shape.fits(Worth(-999, 2)), shape.fits(Worth(10)), shape.fits(Worth(1, 3))]
[3, '9.99', True, False, False]
>>> [least_shape([Worth(12), Worth(-5, 3)]) == Shape(2, 3), least_shape([Worth(0)]) == Shape(1, 0), least_shape([Worth(5, 1), Worth(0)]) == Shape(0, 1)]
[True, True, True]
>>> [[str(worth) for worth in (column.lowest(), column.highest()) + column.small()] for column in (Column(2, 0), Column(0, 1, "unsigned"), Column(1, 1, "positive"))]
[['-99', '99', '0', '1'], ['0', '0.9', '0', '0.1'], ['0.1', '9.9', '0.1', '0.2']]
>>> from figurestay.dialects import Dialect
>>> dialect = Dialect(6, 2)
>>> shape = dialect.uncut("product", Shape(3, 2), Shape(2, 1))
>>> [(one.whole, one.scale) for one in (shape, dialect.cut(shape), dialect.shape_of("sum", Shape(3, 2), Shape(2, 1)), dialect.uncut("quotient", Shape(3, 2), Shape(2, 1)))]
[(5, 3), (4, 2), (4, 2), (4, 5)]
>>> [(one.whole, one.scale) for one in (Dialect(6, 0).cut(shape), Dialect(6, 6).cut(shape), Dialect(6, 0).cut(Shape(9, 3)))]
[(5, 1), (3, 3), (6, 0)]
>>> from figurestay.formulas import Formula, column, constant
>>> formula = column("a") + 2 * column("b")
>>> formula.rows
(('column', 'a'), ('constant', 2, 0), ('column', 'b'), ('product', 1, 2), ('sum', 0, 3))
>>> [formula.part(3) == constant(2) * column("b"), formula.replaced(3, column("c")) == column("a") + column("c"), formula.names(), formula.parts(4), formula.size]
[True, True, ('a', 'b'), (0, 3), 5]
>>> Formula([("column", "a"), ("column", "b"), ("sum", 1, 0)])
raises BadStep(number=2)
>>> from figurestay.shaped import Shaped
>>> from figurestay.worked import exact_worth, result_of, work
>>> columns = {"a": Column(3, 2), "b": Column(3, 2)}
>>> shaped = Shaped(column("a") * column("b"), columns, Dialect(6, 2))
>>> [(shape.whole, shape.scale) for shape in shaped.shapes + shaped.uncapped[2:]]
[(3, 2), (3, 2), (4, 2), (6, 4)]
>>> run = work(shaped, {"a": Worth(125, 2), "b": Worth(3, 2)})
>>> [str(run.result), run.events, run.ends_at]
['0.04', ((2, 'lost'),), None]
>>> str(result_of(shaped, {"a": Worth(125, 2), "b": Worth(3, 2)}))
'0.04'
>>> result_of(shaped, {"a": Worth(1)})
raises BadWorths(name='b')
>>> run = work(shaped, {"a": Worth(99999, 2), "b": Worth(99999, 2)})
>>> [run.result, len(run.results), run.events, run.ends_at]
[None, 2, ((2, 'lost'), (2, 'over')), 2]
>>> exact_worth(column("a").over(column("b")).rounded(0, "cut"), {"a": Worth(5, 1), "b": Worth(-3)})
(-1, 6)
>>> from figurestay.backs import told_back
>>> half = Shaped((column("a") * constant(5, 1)).rounded(0, "halfeven"), {"a": Column(3, 1)}, Dialect(20, 0))
>>> [[str(end) for end in told_back(half, {}, "a", Worth(units))] for units in (2, 1)]
[['3', '5'], ['1.1', '2.9']]
>>> from figurestay.exacts import exact_range, finer, is_plain, true_shape, unlike
>>> columns = {"a": Column(2, 1), "b": Column(1, 2, "unsigned")}
>>> shaped = Shaped(column("a") * column("b") - 3 * column("a"), columns, Dialect(20, 6))
>>> [str(worth) for worth, worths in exact_range(shaped, 6)]
['-698.301', '698.301']
>>> shape, small = true_shape(shaped, 6), finer(shaped, 6, 2)
>>> [(shape.whole, shape.scale), [str(small[name]) for name in ("a", "b")], finer(shaped, 6, 3)]
[(3, 3), ['0.1', '0.01'], None]
>>> [unlike(shaped, shaped.with_formula(column("a") * (column("b") - 3))), is_plain(shaped.with_formula(column("a") * column("a")))]
[None, False]
>>> exact_range(shaped.with_formula(column("a") * column("a") + 1), 2)
raises NotPlain(step=2)
>>> exact_range(shaped.with_formula(column("a").over(Worth(3))), 2)
raises Divides(step=2)
>>> from figurestay.events import first_event, is_safe
>>> product = column("a") * column("b")
>>> events = [first_event(Shaped(product, columns, Dialect(5, kept))) for kept in (1, 3)]
>>> [[event.step, sorted(event.kinds)] for event in events]
[[2, ['lost']], [2, ['over']]]
>>> [sorted(events[1].kinds["over"]), is_safe(Shaped(product, columns, Dialect(6, 0)))]
[['a', 'b'], True]
>>> from figurestay.orders import best_whole, least_whole, least_whole_in_row, reached, safe_sum
>>> [least_whole([5, 5, 5, 5]), least_whole([1, 3, 1]), least_whole_in_row([1, 3, 1])]
[7, 4, 5]
>>> wide = {name: Column(5, 2) for name in ("p", "q", "r", "s")}
>>> terms = [column(name) for name in ("p", "q", "r", "s")]
>>> [best_whole(terms, wide, Dialect(cap, 0)) for cap in (9, 8)]
[7, None]
>>> reached([column("p"), constant(125, 3), constant(8)], wide, Dialect(8, 0))
[(0, 1, 2), (0, 2), (1, 2)]
>>> from figurestay.chains import barring, safe_form, spread
>>> row = Shaped(terms[0] + terms[1] + terms[2] + terms[3], wide, Dialect(9, 0))
>>> [is_safe(row), is_safe(row.with_formula(safe_form(row))), barring(row), barring(Shaped(row.formula, wide, Dialect(8, 0)))]
[False, True, None, 6]
>>> spread(column("a") * (column("b") - 3), 4) == column("a") * column("b") - column("a") * 3
True
>>> spread(column("a") * column("b"), 2)
raises NotASum(step=2)
>>> from figurestay.casts import cast_at, fewest_casts
>>> narrow = Shaped(column("p") * constant(1, 3) * column("q"), wide, Dialect(14, 0))
>>> [fewest_casts(narrow), cast_at(narrow, [2]).rows[3]]
[(2,), ('cast', 2, 2, 5)]
>>> fewest_casts(narrow.with_formula(column("p").rounded(0, "halfup")))
raises NotSteady(step=1)
>>> from figurestay.caps import least_cap, widest, widest_pairs
>>> [least_cap(narrow), widest(narrow, "q")]
[17, 2]
>>> widest_pairs(narrow, "p", "q")
[(0, 7), (1, 6), (2, 5), (3, 4), (4, 3), (5, 2), (6, 1), (7, 0)]
>>> from figurestay.linear import is_linear, multipliers, need_linear, rest
>>> columns = {"a": Column(2, 1), "b": Column(2, 0)}
>>> shaped = Shaped(2 * column("a") - column("b") * constant(25, 2) + 7, columns, Dialect(20, 0))
>>> [[(name, str(multipliers(shaped)[name])) for name in ("a", "b")], str(rest(shaped)), is_linear(shaped)]
[[('a', '2'), ('b', '-0.25')], '7', True]
>>> need_linear(shaped.with_formula(column("a") * column("b")))
raises NotLinear(step=2)
>>> [is_linear(shaped.with_formula(column("a").over(Worth(units)))) for units in (8, 3, 0)]
[True, False, False]
>>> from figurestay.extremes import extremes, first_over, losing
>>> columns = {"a": Column(1, 1, "unsigned")}
>>> shaped = Shaped(column("a") - column("a").cast(2, 0), columns, Dialect(20, 0))
>>> [[str(worth) for worth, worths in extremes(shaped, 3)], first_over(shaped), losing(shaped, 3), losing(shaped, 2) is None]
[['-0.5', '0.4'], None, None, False]
>>> first_over(shaped.with_formula(column("a").rounded(0, "halfup")))[0]
1
>>> step, worths = first_over(Shaped(column("a") + 1, {"a": Column(1, 0, "unsigned")}, Dialect(1, 0)))
>>> [step, str(worths["a"])]
[2, '9']
>>> from figurestay.strays import apart, stray
>>> [str(worth) for worth, worths in stray(shaped.with_formula(column("a").cast(2, 0)))]
['-0.4', '0.5']
>>> both = {"a": Column(2, 1, "unsigned"), "b": Column(2, 0, "unsigned")}
>>> early = Shaped(column("a").cast(3, 0) + column("b"), both, Dialect(20, 0, way="halfeven"))
>>> late = early.with_formula((column("a") + column("b")).cast(3, 0))
>>> [str(worth) for worth, worths in apart(early, late)]
['-1', '1']
>>> apart(early, shaped)
raises ColumnsDiffer(name='a')
>>> from figurestay.agree import parting, parting_widths
>>> [parting(early, late) is None, parting_widths(early, late)[0]]
[False, 1]
>>> up = [Shaped(one.formula, both, Dialect(20, 0)) for one in (early, late)]
>>> [parting(up[0], up[1]), parting_widths(up[0], up[1])]
[None, None]
>>> from figurestay.compared import shapes_part, ways_part
>>> shapes_part(Dialect(6, 2), Dialect(6, 2, extra=1), {"a": Column(2, 0)}).rows
(('column', 'a'), ('column', 'a'), ('product', 0, 1))
>>> [str(ways_part("halfeven", "halfdown", signed)) for signed in (True, False)] + [ways_part("cut", "floor", False)]
['-0.5', '1.5', None]
>>> from figurestay.totals import rounded_total, running_total, total_of_rounded
>>> [str(total([(Worth(5, 1), 3)], 0, "halfeven")) for total in (rounded_total, total_of_rounded, running_total)]
['2', '0', '0']
>>> [str(running_total([(Worth(-3), 1), (Worth(5, 1), times)], 0, "cut")) for times in (1, 3, 10 ** 30)]
['-2', '0', '0']
>>> running_total([(Worth(1), 1), (Worth(1), -1)], 0, "cut")
raises BadEntry(index=1)
>>> from figurestay.tallies import order_for, tally_range
>>> pair = [(Worth(5, 1), 1), (Worth(-5, 1), 1)]
>>> [[str(end) for end in tally_range(pair, 0, way)] for way in ("halfup", "halfeven", "cut", "away")]
[['1', '1'], ['0', '0'], ['0', '0'], ['-1', '1']]
>>> worths = [Worth(5, 1), Worth(1), Worth(15, 1), Worth(1)]
>>> [str(end) for end in tally_range([(worth, 1) for worth in worths], 0, "halfeven")]
['3', '5']
>>> order = order_for(worths, 0, "halfeven", Worth(4))
>>> [sorted(order), str(running_total([(worths[index], 1) for index in order], 0, "halfeven"))]
[[0, 1, 2, 3], '4']
>>> order_for([Worth(5, 1), Worth(-5, 1)], 0, "away", Worth(0))
raises Gaps(way='away')
>>> from figurestay.crowds import over_from, rounding_gap, running_gap, running_over_from
>>> [[str(gap) for gap, worth in rounding_gap(Column(2, 1), 0, way, many)] for way, many in (("halfeven", 3), ("halfup", 10), ("cut", 10))]
[['-2', '2'], ['-5', '4'], ['-9', '9']]
>>> [[str(gap) for gap in running_gap(Column(1, 1), 0, way, 100)] for way in ("cut", "halfaway", "halfeven", "floor")]
[['-90', '90'], ['-99', '99'], ['-50', '50'], ['0', '0']]
>>> shaped = Shaped(column("a") * column("b"), {"a": Column(2, 1, "unsigned"), "b": Column(1, 0, "unsigned")}, Dialect(20, 0))
>>> [over_from(shaped, 9, 0, "halfup")[0], running_over_from(shaped, 9, 0, "halfup")[0]]
[1112224, 1112348]
>>> little = Shaped(column("a") * constant(4, 1), {"a": Column(0, 1)}, Dialect(20, 0))
>>> [over_from(little, 1, 0, "halfup")[0], running_over_from(little, 1, 0, "halfup")]
[27, None]
>>> from figurestay.reader import read_formula, written
>>> read_formula("-a * (b + 0.10)").rows
(('column', 'a'), ('negative', 0), ('column', 'b'), ('constant', 10, 2), ('sum', 2, 3), ('product', 1, 4))
>>> [written(read_formula(text)) for text in (" ( a*b ) - ( c - 2.50 )", "-(a)*-(b/c)", "round(cast((a), 4, 2), 0, halfeven)")]
['a*b-(c-2.50)', '-a*-(b/c)', 'round(cast(a,4,2),0,halfeven)']
>>> read_formula("a + * b")
raises NotAFormula(at=4)
>>> read_formula("cast(a, 0, 0)")
raises NotAFormula(at=11)
>>> read_formula(7)
raises BadText(value=7)
>>> from figurestay.sheet import Sheet
>>> sheet = Sheet(Dialect(8, 0))
>>> sheet.set_column("price", Column(4, 2))
>>> sheet.set_column("pieces", Column(2, 0, "unsigned"))
>>> sheet.set_formula("amount", read_formula("price * pieces"))
>>> sheet.promise(("safe", "amount"))
>>> sheet.drop("pieces")
raises InUse(name='pieces')
>>> sheet.set_formula("twice", read_formula("price * pieces + price * pieces"))
>>> [sheet.holds(("safe", "twice")), sheet.holds(("equal", "twice", "amount")), sheet.undo(), sorted(sheet.formulas())]
[False, False, True, ['amount']]
>>> sheet.attempt(lambda it: [it.set_column("pieces", Column(3, 0)), it.set_column("price", Column(3, 2))])
>>> [sheet.columns()["price"] == Column(3, 2), sheet.undo(), sheet.columns()["price"] == Column(4, 2)]
[True, True, True]
>>> sheet.set_formula("price", read_formula("pieces"))
raises Taken(name='price')
>>> sheet.promise(("safe", "amounts"))
raises Unknown(name='amounts')
>>> sheet.promise(("safe",))
raises BadPromise(told=('safe',))
>>> sheet.release(("safe", "amount"))
>>> [sheet.promises(), sheet.undo(), sheet.promises()]
[[], True, [('safe', 'amount')]]
"""


def cases(text):
    """Pairs of a line behind >>> and what the document says of it ("" if nothing)."""
    found = []
    for line in text.strip().split("\n"):
        if line.startswith(">>> "):
            found.append((line[4:], ""))
        else:
            found[-1] = (found[-1][0], line)
    return found


def shown(line, names):
    """What a line gives, written as the document writes it."""
    try:
        value = eval(line, names)
    except SyntaxError:
        exec(line, names)
        return ""
    except ValueError as error:
        fields = ", ".join(f"{name}={value!r}" for name, value in vars(error).items())
        return f"raises {type(error).__name__}({fields})"
    return "" if value is None else repr(value)


class Examples(unittest.TestCase):

    def test_all(self):
        names = {}
        for line, wanted in cases(EXAMPLES):
            self.assertEqual(shown(line, names), wanted, line)

    def test_their_number(self):
        self.assertEqual(len(cases(EXAMPLES)), 140)


if __name__ == "__main__":
    unittest.main()

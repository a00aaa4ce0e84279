"""[57], [58] and [65]: formulas with four rounds, one inside the other, that differ by the way or scale of one of them.

The answers come in time, in narrow and in wide columns, and are held against the working of the formulas.
"""

import itertools
import random
import time
import unittest

from figurestay.agree import parting, parting_widths
from figurestay.dialects import Dialect
from figurestay.extremes import extremes, first_over
from figurestay.linear import straights_of
from figurestay.reader import read_formula
from figurestay.shaped import Shaped
from figurestay.shapes import Column
from figurestay.strays import apart, stray
from figurestay.ways import WAYS, divided
from figurestay.worths import Worth

# The seconds that one answer may take.
LIMIT = 20

# Each: the columns, the formula with {0} for what the two differ by, what stands there, the ends of what they are apart
# (None if a step can be over), and the fewest figures of columns that part them.
HARD = [
    ({"a": (2, 5), "c": (2, 5, "unsigned")},
     "round(c*0.31+round(round(round(a*4.9+c*0.05,0,floor)+a*2.3,2,{0})-a*8,0,halfup),1,halfaway)",
     ("halfaway", "halfeven"), ["-1", "0"], 6),
    ({"a": (25, 5), "c": (25, 5, "unsigned")},
     "round(c*0.11+c*0.2-a-a+round((a-a*9+round(round(a*4.9+c*0.05,0,halfeven)-(c-a-a*1.3-c),2,{0}))*5,0,halfup)"
     ",1,halfaway)", ("halfaway", "halfeven"), ["-1", "0"], 6),
    ({"a": (4, 8), "b": (4, 3, "unsigned")},
     "round(round(-round(round(a*0.04,4,{0})*5+a*5.8+b*0.02,3,halfcut)-a*0.2-b*0.38,3,halfaway)+a*8-b,0,away)",
     ("halfaway", "halfeven"), ["-1", "1"], 6),
    ({"a": (4, 5, "unsigned"), "b": (1, 4)},
     "round(round(round(-round(-a*0.1-b*0.01,1,{0})-a*2+b*0.01,3,halfaway)*5+a*0.2+b*0.2,1,halfeven)+a*2-b*0.45,0"
     ",halfaway)", ("ceiling", "floor"), ["-1", "0"], 1),
    ({"a": (25, 5, "positive"), "b": (27, 3, "positive"), "c": (22, 8, "unsigned")},
     "round(a*0.09-c*0.9-round(round(b*0.03+round(c*0.3-c,{0},cut),6,cut)+c*0.06,7,cut),1,cut)",
     ("7", "8"), ["-0.1", "0"], 4),
    ({"a": (2, 3, "positive"), "b": (2, 4)},
     "round(round(round(b+round(-a*0.8+b,3,{0}),3,away)*0.6+a+b+b,2,away)-a+a*0.06,1,away)",
     ("away", "halfdown"), ["-0.2", "0.1"], 2),
    ({"a": (22, 2), "b": (11, 6, "positive")},
     "round(-round(-b*65-round(a*0.05,{0},away),0,away)-b,0,away)", ("3", "4"), ["-3", "1"], 1),
    ({"a": (22, 8, "unsigned"), "b": (30, 0), "c": (30, 0)},
     "round(round(round(-b*6+round(-c*0.09+a-c*0.09,4,{0}),2,away)+a,6,away)+b*1+b,1,away)",
     ("away", "ceiling"), None, 8),
    ({"a": (1, 0, "unsigned"), "b": (2, 5, "unsigned"), "c": (0, 3)},
     "round(a*0.4-b+round(c*8+round(-c*0.6+c*0.5-round(-b*0.04-a,{0},cut),1,cut),0,cut),4,cut)",
     ("5", "6"), ["0", "0"], 4),
    ({"a": (29, 1), "b": (25, 5), "c": (11, 19)},
     "round(b*0.5+a*4-c*0.9-round(c*0.03-a+round(round(-c*0.03+c,{0},away)+a,0,away),0,away),0,away)",
     ("3", "4"), ["-3", "3"], 19),
]


def worked_at(shaped, worths):
    """The result of the last step, and whether a step is over, by integers alone; worths are units of the columns."""
    results = []
    for row, shape in zip(shaped.formula.rows, shaped.shapes):
        if row[0] == "column":
            told = worths[row[1]], shaped.columns()[row[1]].shape.scale
        elif row[0] == "constant":
            told = row[1], row[2]
        elif row[0] in ("sum", "difference"):
            (one, scale), (other, more) = results[row[1]], results[row[2]]
            most = max(scale, more)
            other = other if row[0] == "sum" else -other
            told = one * 10 ** (most - scale) + other * 10 ** (most - more), most
        elif row[0] == "product":
            told = results[row[1]][0] * results[row[2]][0], results[row[1]][1] + results[row[2]][1]
        elif row[0] == "negative":
            told = -results[row[1]][0], results[row[1]][1]
        else:
            assert row[0] == "round"
            units, scale = results[row[1]]
            told = (units, scale) if scale <= row[2] else (divided(units, 10 ** (scale - row[2]), row[3]), row[2])
        results.append(told)
    over = any(abs(units) >= 10 ** (shape.whole + scale) for (units, scale), shape in zip(results, shaped.shapes))
    return Worth(*results[-1]), over


def units_of(shaped, worths):
    columns = shaped.columns()
    return {name: worths[name].units_at(columns[name].shape.scale) for name in columns}


def all_units(columns):
    """Each choice of units of all columns."""
    ends = [(told.lowest().units_at(told.shape.scale), told.highest().units_at(told.shape.scale))
            for told in columns.values()]
    for chosen in itertools.product(*[range(low, high + 1) for low, high in ends]):
        yield dict(zip(columns, chosen))


def widened(columns, figures):
    """The columns with so many figures, those of the scale among them, and nothing else."""
    return {name: (-(10 ** figures - 1) if told.mark == "signed" else 1 if told.mark == "positive" else 0,
                   10 ** figures - 1) for name, told in columns.items()}


def term(chance, name):
    places = chance.choice([0, 0, 1, 2])
    units = chance.choice([1, 2, 3, 4, 5, 6, 8, 9, chance.randint(1, 99)])
    if chance.random() < 0.2:
        return name
    text = str(units).zfill(places + 1)
    return name + "*" + (text[:-places] + "." + text[-places:] if places else text)


def terms(chance, names, many):
    return "".join(chance.choice("+-") + term(chance, chance.choice(names)) for _ in range(many))


def nested_text(chance, names, scale):
    """A formula of four rounds, one inside the other, and their scales; {0} to {3} stand for scales and ways."""
    text, scales = terms(chance, names, chance.choice([1, 2, 2])).removeprefix("+"), []
    places = scale + 1
    for level in range(4):
        places = max(0, places - chance.choice([0, 1, 1, 2, 9]))
        scales.append(places)
        text = "round(%s,{%d})" % (text, level)
        if level < 3:
            if chance.random() < 0.3:
                text = text + "*" + chance.choice(["2", "3", "5", "0.2", "0.5", "0.1"])
            if chance.random() < 0.2:
                text = "-" + text
            text = text + terms(chance, names, chance.choice([0, 1, 1, 2]))
    return text, scales


def is_within_limits(shaped):
    """Whether each multiplier is as [65] asks."""
    for straight in straights_of(shaped):
        for worth in straight.factors.values():
            if len(str(abs(worth.units))) > 2 or worth.scale > 2:
                return False
    return True


def nested_pair(chance, columns):
    """Two Shapeds of such a formula that differ by the way or the scale of one round."""
    scale = max(told.shape.scale for told in columns.values())
    while True:
        text, scales = nested_text(chance, sorted(columns), scale)
        ways = [chance.choice(WAYS) for _ in scales]
        if chance.random() < 0.4:
            ways = [chance.choice(("cut", "away", "halfeven", "halfaway"))] * len(scales)
        rounds, place = list(zip(scales, ways)), chance.randrange(4)
        others = list(rounds)
        if chance.random() < 0.75:
            others[place] = scales[place], chance.choice([way for way in WAYS if way != ways[place]])
        else:
            others[place] = scales[place] + 1, ways[place]
        both = []
        for told in (rounds, others):
            formula = read_formula(text.format(*["%d,%s" % (places, way) for places, way in told]))
            both.append(Shaped(formula, columns, Dialect(200, 200)))
        if all(is_within_limits(shaped) and first_over(shaped) is None for shaped in both):
            return both


class Timed(unittest.TestCase):

    def in_time(self, call, *args):
        began = time.time()
        found = call(*args)
        self.assertLess(time.time() - began, LIMIT, f"{call.__name__} {args[0].formula.rows}")
        return found

    def differs(self, pair, worths):
        results = [worked_at(shaped, worths)[0] for shaped in pair]
        return results[0] - results[1]

    def check_held(self, pair, worths):
        columns = pair[0].columns()
        self.assertEqual(sorted(worths), sorted(columns))
        self.assertTrue(all(columns[name].holds(worths[name]) for name in columns))

    def check_ends(self, pair, ends):
        for worth, worths in ends:
            self.check_held(pair, worths)
            self.assertEqual(self.differs(pair, units_of(pair[0], worths)), worth)
        self.assertTrue(ends[0][0] <= ends[1][0])

    def check_parting(self, pair, worths):
        self.check_held(pair, worths)
        self.assertNotEqual(self.differs(pair, units_of(pair[0], worths)).sign(), 0)

    def check_widths(self, pair, found):
        figures, worths = found
        columns = pair[0].columns()
        units = units_of(pair[0], worths)
        bounds = widened(columns, figures)
        self.assertTrue(all(bounds[name][0] <= units[name] <= bounds[name][1] for name in columns))
        self.assertEqual(figures, max(len(str(abs(told))) if told else 0 for told in units.values()))
        self.assertNotEqual(self.differs(pair, units).sign(), 0)


class Partings(Timed):

    def test_hard_pairs(self):
        for columns, text, choices, ends, figures in HARD:
            told = {name: Column(*given) for name, given in columns.items()}
            pair = [Shaped(read_formula(text.format(choice)), told, Dialect(200, 200)) for choice in choices]
            found = self.in_time(parting_widths, *pair)
            self.check_widths(pair, found)
            self.assertEqual(figures if figures else found[0], found[0])
            if ends is None:
                continue
            found = self.in_time(apart, *pair)
            self.check_ends(pair, found)
            self.assertEqual([str(worth) for worth, _ in found], ends)
            worths = self.in_time(parting, *pair)
            self.assertEqual(worths is None, ends == ["0", "0"])
            if worths is not None:
                self.check_parting(pair, worths)

    def test_all_worths_of_small_columns(self):
        chance = random.Random(41)
        parted = 0
        for at in range(45):
            kinds = [(1, 2), (0, 3), (2, 1, "unsigned"), (0, 3, "positive")]
            if at % 3:
                kinds = [(0, 1), (1, 0), (1, 1, "unsigned"), (0, 2, "positive"), (0, 2, "unsigned")]
            columns = {name: Column(*chance.choice(kinds)) for name in ("ab" if at % 3 else "a")}
            pair = nested_pair(chance, columns)
            differences = [self.differs(pair, units) for units in all_units(columns)]
            ends = self.in_time(apart, *pair)
            self.check_ends(pair, ends)
            self.assertTrue(all(ends[0][0] <= told and told <= ends[1][0] for told in differences))
            worths = self.in_time(parting, *pair)
            self.assertEqual(worths is None, all(told.sign() == 0 for told in differences))
            if worths is not None:
                parted += 1
                self.check_parting(pair, worths)
        self.assertGreater(parted, 15)

    def test_fewest_figures(self):
        chance = random.Random(42)
        parted = 0
        for at in range(40):
            columns = {name: Column(1, chance.choice([1, 2, 3]), chance.choice(["signed", "signed", "unsigned"]))
                       for name in ("ab" if at % 2 else "a")}
            pair = nested_pair(chance, columns)
            names = {name for shaped in pair for name in shaped.formula.names()}
            found = self.in_time(parting_widths, *pair)
            few = found[0] if found else 9
            if found:
                parted += 1
                self.check_widths(pair, found)
            # With fewer figures nothing parts them.
            bounds = widened(columns, min(few - 1, 3 if len(names) < 2 else 1))
            for units in itertools.product(*[range(bounds[name][0], bounds[name][1] + 1) for name in columns]):
                self.assertEqual(self.differs(pair, dict(zip(columns, units))).sign(), 0)
        self.assertGreater(parted, 20)

    def test_wide_columns(self):
        chance = random.Random(43)
        for _ in range(60):
            columns = {}
            for name in "abc"[:chance.choice([1, 2, 2, 3])]:
                scale = chance.choice([0, 1, 2, 3, 4, 5, 6, 8, 20])
                columns[name] = Column(chance.choice([2, 9, 29 - scale]) if scale < 27 else 1, scale,
                                       chance.choice(["signed", "signed", "unsigned", "positive"]))
            pair = nested_pair(chance, columns)
            ends, worths = self.in_time(apart, *pair), self.in_time(parting, *pair)
            self.check_ends(pair, ends)
            self.assertEqual(worths is None, [worth.sign() for worth, _ in ends] == [0, 0])
            if worths is not None:
                self.check_parting(pair, worths)
            found = self.in_time(parting_widths, *pair)
            self.assertTrue(found is not None or worths is None)
            if found is not None:
                self.check_widths(pair, found)
            for _ in range(40):
                units = {name: chance.randint(told.lowest().units_at(told.shape.scale),
                                              told.highest().units_at(told.shape.scale))
                         for name, told in columns.items()}
                told = self.differs(pair, units)
                self.assertTrue(ends[0][0] <= told and told <= ends[1][0])


class Extremes(Timed):

    def test_extremes_and_strays(self):
        chance = random.Random(44)
        for _ in range(15):
            columns = {"a": Column(1, 1), "b": Column(0, chance.choice([1, 2]), "unsigned")}
            shaped = nested_pair(chance, columns)[0]
            straight = straights_of(shaped)[-1]
            results, strays = [], []
            for units in all_units(columns):
                results.append(worked_at(shaped, units)[0])
                worths = {name: Worth(units[name], columns[name].shape.scale) for name in units}
                told = straight.rest_worth
                for name in straight.factors:
                    told = told + straight.factors[name] * worths[name]
                strays.append(results[-1] - told)
            last = shaped.formula.size - 1
            for ends, worths in ((self.in_time(extremes, shaped, last), results), (self.in_time(stray, shaped), strays)):
                self.assertTrue(ends[0][0] in worths and ends[1][0] in worths)
                self.assertTrue(all(ends[0][0] <= worth and worth <= ends[1][0] for worth in worths))


if __name__ == "__main__":
    unittest.main()

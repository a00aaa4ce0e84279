"""Texts of formulas, against Python's own reading of them and against a slow reading of the grammar of the document."""

import ast
import random
import time
import unittest

from helper import Case, chance_formula, rows_of

from figurestay.errors import BadText, BadValue, NotAFormula
from figurestay.formulas import Formula, column, constant
from figurestay.reader import read_formula, written
from figurestay.ways import WAYS
from figurestay.worths import Worth

LETTERS, DIGITS = "abcdefghijklmnopqrstuvwxyz", "0123456789"
A, B = column("a"), column("b")

# The grammar of [34]: for each symbol what it may be replaced by; strings of one character stand for themselves.
RULES = {
    "FORMULA": [("TERM", "TERMS")],
    "TERMS": [(), ("_", "+", "TERM", "TERMS"), ("_", "-", "TERM", "TERMS")],
    "TERM": [("FACTOR", "FACTORS")],
    "FACTORS": [(), ("_", "*", "FACTOR", "FACTORS"), ("_", "/", "FACTOR", "FACTORS")],
    "FACTOR": [("_", "-", "FACTOR"), ("_", "NAME8"), ("_", "NUMBER"), ("_", "(", "FORMULA", "_", ")"),
               ("_", "c", "a", "s", "t", "_", "(", "FORMULA", "_", ",", "_", "FIELDS", "_", ")"),
               ("_", "r", "o", "u", "n", "d", "_", "(", "FORMULA", "_", ",", "_", "SMALL", "_", ",", "_", "WAY",
                "_", ")")],
    "FIELDS": [("0", "_", ",", "_", "ABOVE"), ("ABOVE", "_", ",", "_", "SMALL")],
    "SMALL": [("0",), ("ABOVE",)],
    "ABOVE": [("NONZERO",), ("NONZERO", "DIGIT"), ("NONZERO", "DIGIT", "DIGIT")],
    "WAY": [tuple(way) for way in WAYS],
    "NUMBER": [("WHOLE",), ("WHOLE", ".", "DIGIT", "MORE99")],
    "WHOLE": [("0",), ("NONZERO", "MORE99")],
    "DIGIT": [(digit,) for digit in DIGITS],
    "NONZERO": [(digit,) for digit in DIGITS[1:]],
    "LETTER": [(letter,) for letter in LETTERS],
    "NAME8": [("LETTER", "LETTERS7")],
    "LETTERS0": [()],
    "MORE0": [()],
    "_": [(), (" ", "_")],
}
for many in range(1, 100):
    RULES[f"MORE{many}"] = [(), ("DIGIT", f"MORE{many - 1}")]
    if many < 8:
        RULES[f"LETTERS{many}"] = [(), ("LETTER", f"LETTERS{many - 1}")]


def starts(stacks):
    """All stacks with a character on top, or empty, to which these can be brought."""
    found, waiting = set(), list(stacks)
    while waiting:
        stack = waiting.pop()
        if not stack or stack[0] not in RULES:
            found.add(stack)
        else:
            waiting.extend(tuple(instead) + stack[1:] for instead in RULES[stack[0]])
    return found


def wrong_place(text):
    """The first wrong place, found by following all readings at once; None for a text of a formula."""
    stacks = starts([("FORMULA", "_")])
    for at, char in enumerate(text):
        stacks = starts([stack[1:] for stack in stacks if stack and stack[0] == char])
        if not stacks:
            return at
    return None if () in stacks else len(text)


def tree_by_python(node, text):
    """The tree of a text as Python reads it."""
    if isinstance(node, ast.Expression):
        return tree_by_python(node.body, text)
    if isinstance(node, ast.Name):
        return "column", (), (node.id,)
    if isinstance(node, ast.Constant):
        ahead, _, behind = ast.get_source_segment(text, node).partition(".")
        return "constant", (), (int(ahead + behind), len(behind))
    if isinstance(node, ast.UnaryOp):
        return "negative", (tree_by_python(node.operand, text),), ()
    if isinstance(node, ast.BinOp):
        words = {ast.Add: "sum", ast.Sub: "difference", ast.Mult: "product", ast.Div: "quotient"}
        return words[type(node.op)], (tree_by_python(node.left, text), tree_by_python(node.right, text)), ()
    fields = tuple(told.id if isinstance(told, ast.Name) else told.value for told in node.args[1:])
    return node.func.id, (tree_by_python(node.args[0], text),), fields


def by_python(text):
    return Formula(rows_of(tree_by_python(ast.parse(text.strip(), mode="eval"), text.strip())))


def chance_text(chance, size):
    """A text with brackets and blanks that need not be there."""
    kind = chance.random()

    def gap():
        return " " * chance.choice([0, 0, 0, 1, 2])

    if size <= 1:
        return chance.choice(["a", "b", "xyz", "cast", "round", "abcdefgh", "0", "7", "0.10", "12.5", "100", "0.0", "9.000"])
    if kind < 0.15:
        return "-" + gap() + chance_factor(chance, size - 1)
    if kind < 0.3:
        return "(" + gap() + chance_text(chance, size - 1) + gap() + ")"
    if kind < 0.38:
        whole, scale = chance.choice([(0, 1), (1, 0), (12, 999), (100, 2), (0, 10)])
        return f"cast{gap()}({gap()}{chance_text(chance, size - 1)}{gap()},{gap()}{whole}{gap()},{gap()}{scale}{gap()})"
    if kind < 0.46:
        scale, way = chance.choice([0, 1, 10, 999]), chance.choice(WAYS)
        return f"round{gap()}({chance_text(chance, size - 1)},{gap()}{scale}{gap()},{gap()}{way}{gap()})"
    left = chance.randrange(1, size)
    return chance_text(chance, left) + gap() + chance.choice("+-*/") + gap() + chance_text(chance, size - left)


def chance_factor(chance, size):
    return chance_text(chance, 1) if chance.random() < 0.5 else "(" + chance_text(chance, size) + ")"


class Reading(Case):

    def check(self, text):
        wrong = wrong_place(text)
        if wrong is None:
            found = read_formula(text)
            self.assertEqual(wrong_place(written(found)), None)
            return True
        with self.assertRaises(NotAFormula, msg=text) as caught:
            read_formula(text)
        self.assertEqual(caught.exception.at, wrong, text)
        return False

    def test_as_python_reads_it(self):
        chance = random.Random(61)
        for _ in range(600):
            text = chance_text(chance, chance.randrange(1, 12))
            if len(text) > 400:
                continue
            self.assertIsNone(wrong_place(text))
            self.assertEqual(read_formula(text), by_python(text), text)
            self.assertEqual(read_formula("  " + text + " "), by_python(text))

    def test_one_character_taken_out_or_put_in_or_changed_at_each_place(self):
        chance = random.Random(62)
        texts = ["cast(a,0,1)", "round ( a , 10, halfeven )", "-(a+0.10)*b", "cast", "round(cast(a,999,0),0,cut)-cast*round",
                 "1.5/abcdefgh", "0", "10.00", "((a))", "cast (a,1,2 )"]
        texts += [text for text in [chance_text(chance, 5) for _ in range(8)] if len(text) < 60]
        good = 0
        for text in texts:
            for at in range(len(text) + 1):
                self.check(text[:at])
                good += self.check(text[:at] + text[at + 1:])
                for char in "a0 (),.-+x1":
                    good += self.check(text[:at] + char + text[at:])
                    self.check(text[:at] + char + text[at + 1:])
        self.assertGreater(good, 200)

    def test_edges(self):
        for text, at in (("", 0), ("   ", 3), ("a b", 2), ("05", 1), ("00", 1), ("1.", 2), (".5", 0), ("1. 5", 2), ("1 .5", 2),
                         ("abcdefghi", 8), ("castx(a,1,1)", 5), ("cast(a,0,0)", 9), ("cast(a,00,1)", 8), ("cast(a,1000,1)", 10),
                         ("cast(a,1,1000)", 12), ("round(a,0,up)", 10), ("round(a,0,halfof)", 14), ("round(a,0,cuts)", 13),
                         ("round(a,0,floo)", 14), ("round(a,-1,cut)", 8), ("cast(a,1)", 8), ("cast(a)", 6), ("round(a,1,cut,2)", 13),
                         ("A", 0), ("a+B", 2), ("a\tb", 1), ("a\n", 1), ("1e5", 1), ("a**b", 2), ("+a", 0), ("a)", 1), ("()", 1),
                         ("(a", 2), ("a,b", 1), ("a(b)", 1), ("2(a)", 1), ("(a)(b)", 3), ("a//b", 2), ("1_0", 1), ("\u0663", 0),
                         ("a\u00e9", 1), ("ab\u00b2", 2), ("%", 0), ("ca st(a,1,1)", 3), ("round(a,0,half up)", 14)):
            self.assertEqual(wrong_place(text), at, text)
            self.refused(NotAFormula, {"at": at}, read_formula, text)

    def test_columns_called_cast_and_round(self):
        self.assertEqual(read_formula("cast*round"), column("cast") * column("round"))
        self.assertEqual(read_formula("(cast)"), column("cast"))
        self.assertEqual(read_formula("cast (cast,1,0)"), column("cast").cast(1, 0))
        self.assertEqual(read_formula("round(round , 0 ,cut)").rows, (("column", "round"), ("round", 0, 0, "cut")))
        self.assertEqual(written(column("cast").cast(1, 0) - column("round")), "cast(cast,1,0)-round")

    def test_numbers_of_100_and_101_digits(self):
        nines, zeros = "9" * 100, "0" * 99 + "1"
        self.assertEqual(read_formula(nines), constant(int(nines)))
        self.assertEqual(read_formula(nines + "." + zeros), constant(int(nines + zeros), 100))
        self.assertEqual(read_formula("0." + zeros).rows, (("constant", 1, 100),))
        self.refused(NotAFormula, {"at": 100}, read_formula, nines + "9")
        self.refused(NotAFormula, {"at": 102}, read_formula, "a-" + nines + "5.5")
        self.refused(NotAFormula, {"at": 102}, read_formula, "0." + zeros + "0")
        for formula in (constant(int(nines)), constant(int(nines + zeros), 100), constant(1, 100), constant(0, 100)):
            self.assertEqual(read_formula(written(formula)), formula)
        for formula in (constant(10 ** 100), constant(10 ** 200, 100), constant(1, 101), constant(0, 101),
                        A + constant(10 ** 5000)):
            self.refused(BadValue, {"value": formula}, written, formula)

    def test_texts_of_400_and_401_characters(self):
        text = "-" * 399 + "a"
        self.assertEqual(read_formula(text).size, 400)
        self.assertEqual(written(read_formula(text)), text)
        self.refused(BadText, {"value": "-" + text}, read_formula, "-" + text)
        text = "a+" * 199 + "ab"
        self.assertEqual(read_formula(text).size, 399)
        self.refused(BadText, {"value": " " * 401}, read_formula, " " * 401)
        self.refused(NotAFormula, {"at": 400}, read_formula, " " * 400)

    def test_40_and_41_brackets(self):
        for inner in ("a", "cast(a,1,1)"):
            many = 40 - inner.count("(")
            self.assertEqual(read_formula("(" * many + inner + ")" * many), read_formula(inner))
            bad = "(" * (many + 1) + inner + ")" * (many + 1)
            self.refused(BadText, {"value": bad}, read_formula, bad)
        for bad in ("%" + "(" * 41, ")" * 5 + "(" * 46, "a)" + "(" * 42):
            self.refused(BadText, {"value": bad}, read_formula, bad)
        self.refused(NotAFormula, {"at": 0}, read_formula, ")" * 5 + "(" * 45)
        deep = "cast(" * 39 + "a" + ",1,1)" * 39
        self.assertEqual(read_formula(deep).size, 40)
        self.assertEqual(written(read_formula(deep)), deep)

    def test_refusals(self):
        self.refuses_all_but(lambda value: isinstance(value, str), read_formula, BadText)
        self.refuses_all_but(lambda value: isinstance(value, Formula), written)
        self.assertEqual(read_formula(text="a"), A)
        self.assertEqual(written(formula=A), "a")


class Writing(Case):

    def test_back_and_forth(self):
        chance = random.Random(63)
        for _ in range(400):
            formula = chance_formula(chance, chance.randrange(1, 20))
            text = written(formula)
            self.assertEqual(by_python(text), formula)
            if len(text) <= 400:
                self.assertEqual(read_formula(text), formula)
            self.check_no_bracket_can_go(text, formula)

    def check_no_bracket_can_go(self, text, formula):
        self.assertNotIn(" ", text)
        opened = []
        for at, char in enumerate(text):
            if char == "(":
                opened.append(at)
            elif char == ")":
                first = opened.pop()
                if not text[:first].endswith(("cast", "round")):
                    shorter = text[:first] + text[first + 1:at] + text[at + 1:]
                    self.assertTrue(wrong_place(shorter) is not None or by_python(shorter) != formula, text)

    def test_examples_of_brackets(self):
        for formula, text in ((A - (B - A), "a-(b-a)"), ((A - B) - A, "a-b-a"), (A * (B * A), "a*(b*a)"), (A.over(B).over(A), "a/b/a"),
                              (A.over(B * A), "a/(b*a)"), ((A + B) * -A, "(a+b)*-a"), (-(A * B), "-(a*b)"), (-A * B, "-a*b"),
                              (-(-A), "--a"), (A - -B, "a--b"), (A + B * A, "a+b*a"), (-(A + B), "-(a+b)"), (A * -(A * B), "a*-(a*b)"),
                              ((A + B).cast(1, 0) * 2, "cast(a+b,1,0)*2"), ((A - 1).rounded(0, "cut").over(3), "round(a-1,0,cut)/3"),
                              (A * Worth(-25, 2), "a*-0.25"), (constant(250, 2) - constant(0, 3), "2.50-0.000")):
            self.assertEqual(written(formula), text)
            self.assertEqual(read_formula(text), formula)

    def test_numbers_of_casts_and_rounds(self):
        self.assertEqual(written(A.cast(999, 999)), "cast(a,999,999)")
        self.assertEqual(written(A.rounded(999, "cut")), "round(a,999,cut)")
        for formula in (A.cast(1000, 0), A.cast(0, 1000), A.rounded(1000, "cut"), A.cast(10 ** 5000, 1), B - A.cast(5, 1000)):
            self.refused(BadValue, {"value": formula}, written, formula)

    def test_long_formulas(self):
        began = time.time()
        text = written(Formula([("column", "a")] + [("negative", step) for step in range(3000)]))
        self.assertEqual(text, "-" * 3000 + "a")
        rows = [("column", "a")]
        for _ in range(1500):
            last = len(rows) - 1
            rows += [("column", "b"), ("sum", last, last + 1), ("negative", last + 2)]
        text = written(Formula(rows))
        self.assertEqual(text.count("("), 1500)
        self.assertLess(time.time() - began, 10)


if __name__ == "__main__":
    unittest.main()

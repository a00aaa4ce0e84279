"""The names, arguments and places of the interface, and that nothing is missing from a class itself."""

import ast
import importlib
import inspect
import os
import unittest

FOLDER = os.path.join(os.path.dirname(os.path.abspath(__file__)), "..", "figurestay")

FUNCTIONS = {
    "worths": {"compare": "(one, other)", "read_figures": "(text)", "read_worth": "(text)"},
    "ways": {"mirrored": "(way)", "divided": "(number, divisor, way)", "rounded": "(worth, scale, way)",
             "rounded_quotient": "(one, other, scale, way)", "shown_as": "(worth, scale, places, way)"},
    "shapes": {"least_shape": "(worths)"},
    "formulas": {"column": "(name)", "constant": "(units, scale=0)"},
    "worked": {"work": "(shaped, worths)", "result_of": "(shaped, worths)", "exact_worth": "(formula, worths)"},
    "backs": {"told_back": "(shaped, worths, name, result)"},
    "exacts": {"is_plain": "(shaped)", "exact_range": "(shaped, step)", "true_shape": "(shaped, step)",
               "finer": "(shaped, step, scale)", "unlike": "(one, other)"},
    "events": {"first_event": "(shaped)", "is_safe": "(shaped)"},
    "orders": {"least_whole": "(wholes)", "least_whole_in_row": "(wholes)", "joined": "(wholes)",
               "joined_in_row": "(wholes)", "best_whole": "(terms, columns, dialect)",
               "safe_sum": "(terms, columns, dialect)", "safe_sum_in_row": "(terms, columns, dialect)",
               "reached": "(factors, columns, dialect)", "safe_product": "(factors, columns, dialect)"},
    "chains": {"safe_form": "(shaped)", "barring": "(shaped)", "spread": "(formula, step)"},
    "casts": {"cast_at": "(shaped, steps)", "fewest_casts": "(shaped)"},
    "caps": {"least_cap": "(shaped)", "widest": "(shaped, name)", "widest_pairs": "(shaped, name, other)"},
    "linear": {"is_linear": "(shaped)", "need_linear": "(shaped)", "multipliers": "(shaped)", "rest": "(shaped)"},
    "extremes": {"extremes": "(shaped, step)", "first_over": "(shaped)", "losing": "(shaped, step)"},
    "strays": {"stray": "(shaped)", "apart": "(one, other)"},
    "agree": {"parting": "(one, other)", "parting_widths": "(one, other)"},
    "compared": {"shapes_part": "(dialect, other, columns)", "ways_part": "(way, other, signed)"},
    "totals": {"rounded_total": "(entries, scale, way)", "total_of_rounded": "(entries, scale, way)",
               "running_total": "(entries, scale, way)"},
    "tallies": {"tally_range": "(entries, scale, way)", "order_for": "(worths, scale, way, total)"},
    "crowds": {"rounding_gap": "(column, scale, way, many)", "running_gap": "(column, scale, way, many)",
               "over_from": "(shaped, whole, scale, way)", "running_over_from": "(shaped, whole, scale, way)"},
    "reader": {"read_formula": "(text)", "written": "(formula)"},
}

CLASSES = {
    "worths": {"Worth": {"__init__": "(self, units, scale=0)", "sign": "(self)", "units_at": "(self, scale)",
                         "text": "(self, scale)"}},
    "shapes": {"Shape": {"__init__": "(self, whole, scale)", "fits": "(self, worth)", "greatest": "(self)"},
               "Column": {"__init__": "(self, whole, scale, mark='signed')", "holds": "(self, worth)",
                          "lowest": "(self)", "highest": "(self)", "small": "(self)"}},
    "dialects": {"Dialect": {"__init__": "(self, cap, kept, *, extra=0, places=0, way='halfup')",
                             "uncut": "(self, word, one, other)", "cut": "(self, shape)",
                             "shape_of": "(self, word, one, other)"}},
    "formulas": {"Formula": {"__init__": "(self, rows)", "names": "(self)", "parts": "(self, step)",
                             "part": "(self, step)", "replaced": "(self, step, other)", "over": "(self, other)",
                             "cast": "(self, whole, scale)", "rounded": "(self, scale, way)"}},
    "shaped": {"Shaped": {"__init__": "(self, formula, columns, dialect)", "columns": "(self)",
                          "with_formula": "(self, formula)"}},
    "worked": {"Run": {}},
    "events": {"Event": {"__init__": "(self, step, kinds)"}},
    "sheet": {"Sheet": {"__init__": "(self, dialect)", "set_column": "(self, name, column)",
                        "set_formula": "(self, name, formula)", "drop": "(self, name)", "promise": "(self, told)",
                        "release": "(self, told)", "attempt": "(self, action)", "undo": "(self)", "columns": "(self)",
                        "formulas": "(self)", "promises": "(self)", "shaped_of": "(self, name)",
                        "holds": "(self, told)"}},
}

PROPERTIES = {("shapes", "Shape"): ["width"], ("formulas", "Formula"): ["size"],
              ("worked", "Run"): ["ends_at", "result"]}

SIGNS = {("worths", "Worth"): ["__add__", "__radd__", "__sub__", "__rsub__", "__mul__", "__rmul__", "__neg__",
                               "__abs__", "__str__", "__eq__"],
         ("formulas", "Formula"): ["__add__", "__radd__", "__sub__", "__rsub__", "__mul__", "__rmul__", "__neg__",
                                   "__eq__"],
         ("shapes", "Shape"): ["__eq__"], ("shapes", "Column"): ["__eq__"], ("dialects", "Dialect"): ["__eq__"],
         ("worked", "Run"): ["__eq__"], ("events", "Event"): ["__eq__"]}


def module_of(name):
    return importlib.import_module("figurestay." + name)


class Interface(unittest.TestCase):

    def test_functions(self):
        for file, functions in FUNCTIONS.items():
            for name, arguments in functions.items():
                function = getattr(module_of(file), name)
                self.assertEqual(function.__module__, "figurestay." + file)
                self.assertEqual(str(inspect.signature(function)), arguments, name)

    def test_classes_and_methods_in_the_class_itself(self):
        for file, classes in CLASSES.items():
            for name, methods in classes.items():
                found = getattr(module_of(file), name)
                self.assertEqual(found.__module__, "figurestay." + file)
                for method, arguments in methods.items():
                    self.assertEqual(str(inspect.signature(vars(found)[method])), arguments, (name, method))

    def test_properties_and_signs_in_the_class_itself(self):
        for (file, name), properties in PROPERTIES.items():
            for told in properties:
                self.assertIsInstance(vars(getattr(module_of(file), name))[told], property)
        for (file, name), signs in SIGNS.items():
            for sign in signs:
                self.assertIn(sign, vars(getattr(module_of(file), name)))

    def test_defined_in_their_files(self):
        for told in (FUNCTIONS, CLASSES):
            for file, names in told.items():
                with open(os.path.join(FOLDER, file + ".py"), encoding="utf-8") as source:
                    tree = ast.parse(source.read())
                defined = [node.name for node in tree.body if isinstance(node, (ast.FunctionDef, ast.ClassDef))]
                for name in names:
                    self.assertIn(name, defined)

    def test_no_object_is_a_key_that_is_equal_by_value(self):
        for file, classes in CLASSES.items():
            for name in classes:
                if name not in ("Shaped", "Sheet"):
                    self.assertIsNone(vars(getattr(module_of(file), name)).get("__hash__"))


if __name__ == "__main__":
    unittest.main()

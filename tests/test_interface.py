"""The names and parameters of the interface: each stands in its own file, and each method in its own class."""

import ast
import importlib
import pathlib
import unittest

PACKAGE = pathlib.Path(__file__).resolve().parent.parent / "strewfar"
VALUES = {
    "places": {"MAX_DIMENSION": 3},
    "blocks": {"MAX_STATEMENTS": 60, "MAX_STEP": 10 ** 12, "MAX_TIMES": 10 ** 30},
    "parts": {"MAX_PARTS": 12, "MAX_DEPTH": 6, "MAX_PUTS": 60},
    "residues": {"MAX_CLASSES": 40},
    "crews": {"MAX_WALKERS": 8},
}
FUNCTIONS = {
    "places": ("is_place(thing, dimension)", "origin(dimension)", "add(one, *others)", "scale(number, place)",
               "opposite(place)", "is_forward(vector)", "residue(place, moduli)"),
    "blocks": ("is_name(text)", "is_block(block, dimension)", "check_block(block, dimension)", "reverse(block)",
               "statements(block)", "depth(block)", "names_in(block)", "renamed(block, old, new)"),
    "tongue": ("format_block(block)", "parse_block(text, dimension)"),
    "lattices": ("relations(vectors)", "solutions(vectors, times, target)"),
    "trails": ("trail_of(parts, block)",),
    "compare": ("difference(one, other, *, modulo=0)", "same(one, other)", "commute(one, other)",
                "exponent(one, other)"),
    "residues": ("residue_sums(effect, moduli)", "offset(one, other)"),
    "beats": ("split(parts, block, beat)", "walk(parts, block, *, start=None, limit=1000)"),
    "pages": ("format_book(book)", "parse_book(text)"),
    "tables": ("table(parts)",),
}
METHODS = {
    ("parts", "Parts"): ("__init__(self, dimension, blocks)", "classmethod empty(cls, dimension)",
                         "property dimension(self)", "names(self)", "block(self, name)", "users(self, name)",
                         "blocks(self)", "check(self, block)", "depth(self, block)", "puts(self, block)"),
    ("trails", "Trail"): ("staticmethod still(dimension)", "staticmethod go(vector)",
                          "staticmethod put(dimension, number)", "property dimension(self)", "property beats(self)",
                          "property shift(self)", "strewings(self)", "__mul__(self, other)", "__neg__(self)",
                          "repeated(self, times)", "effect(self)", "visits(self, place)"),
    ("effects", "Effect"): ("staticmethod still(dimension)", "staticmethod mark(place, number)",
                            "property dimension(self)", "property shift(self)", "property total(self)", "terms(self)",
                            "__mul__(self, other)", "__neg__(self)", "power(self, times)", "moved(self, vector)",
                            "amount(self, place)", "merged(self, *others)"),
    ("crews", "Walker"): ("__init__(self, part, start)", "property part(self)", "property start(self)",
                          "trail(self, parts)", "place_after(self, parts, beats)", "effect_after(self, parts, beats)",
                          "last(self, parts)"),
    ("crews", "LateWalker"): ("__init__(self, part, start, *, delay=1)", "property delay(self)",
                              "place_after(self, parts, beats)", "effect_after(self, parts, beats)",
                              "last(self, parts)"),
    ("crews", "Crew"): ("__init__(self, parts)", "__len__(self)", "join(self, *walkers)", "leave(self, index)",
                        "walkers(self)", "places(self, beat)", "effect(self, *, beat=None)", "last(self)"),
    ("books", "Book"): ("__init__(self, dimension)", "classmethod of(cls, parts)", "property parts(self)",
                        "__len__(self)", "__repr__(self)", "__eq__(self, other)", "define(self, name, block)",
                        "redefine(self, name, block)", "rename(self, name, new)", "drop(self, name)",
                        "apply(self, command)", "apply_all(self, commands)", "undo(self)", "redo(self)",
                        "history(self)", "trail(self, name)", "effect(self, name)", "clone(self)"),
    ("desks", "Desk"): ("__init__(self, *, book=None, dimension=2)", "book(self)", "ask(self, line)"),
}


def heads(body):
    """Return the functions of a module or a class as they are written, with their decorators in front."""
    return [" ".join([*[ast.unparse(decorator) for decorator in node.decorator_list],
                      f"{node.name}({ast.unparse(node.args)})"])
            for node in body if isinstance(node, ast.FunctionDef)]


def body_of(module):
    return ast.parse((PACKAGE / f"{module}.py").read_text()).body


class Interface(unittest.TestCase):
    def test_values(self):
        for module, values in VALUES.items():
            for name, value in values.items():
                self.assertEqual(getattr(importlib.import_module(f"strewfar.{module}"), name), value)

    def test_functions(self):
        for module, functions in FUNCTIONS.items():
            self.assertLessEqual(set(functions), set(heads(body_of(module))))

    def test_methods(self):
        for (module, name), methods in METHODS.items():
            bodies = [node.body for node in body_of(module) if isinstance(node, ast.ClassDef) and node.name == name]
            self.assertEqual(len(bodies), 1)
            self.assertLessEqual(set(methods), set(heads(bodies[0])))


if __name__ == "__main__":
    unittest.main()

"""What the interface lists exists: names, parameters, and where they are defined."""

import importlib
import inspect
import unittest

FUNCTIONS = {
    "vectors": {"vectors_up_to": "form bound", "least_value": "form", "least_vectors": "form"},
    "alike": {
        "least_form": "form", "change_between": "form other", "is_alike": "form other", "count_own": "form",
        "count_own_proper": "form", "is_mirrored": "form",
    },
    "giving": {
        "gives": "form number", "writings": "form number", "count_writings": "form number",
        "count_proper": "form number", "missed": "form most", "gives_all": "form", "least_missed": "form",
    },
    "signs": {"sign": "number other place", "odd_places": "number other", "is_square_at": "number place"},
    "places": {
        "places_of": "form", "form_sign": "form place", "is_alike_at": "form other place",
        "is_alike_over_fractions": "form other", "parting_place": "form other",
    },
    "noughts": {
        "gives_nought_at": "form place", "gives_nought": "form", "barring_place": "form",
        "gives_at": "form number place", "gives_over_fractions": "form number", "barred_number": "form number",
        "nought_vector": "form",
    },
    "binary": {
        "discriminant_of": "form", "is_reduced": "form", "leading": "form", "ring": "form",
        "is_properly_alike": "form other", "proper_change": "form other",
    },
    "classes": {
        "classes": "discriminant", "count_classes": "discriminant", "main_form": "discriminant", "opposite": "form",
        "is_two_sided": "form", "classes_giving": "discriminant number",
    },
    "composing": {
        "composed": "form other", "power": "form many", "order_of": "form", "square_roots": "form",
        "composing_tables": "form other", "cyclic_parts": "discriminant",
    },
    "genera": {
        "marks": "discriminant", "genus_of": "form", "genera": "discriminant", "count_genera": "discriminant",
        "is_of_genus": "form other",
    },
    "units": {
        "least_unit": "discriminant", "least_minus_unit": "discriminant", "unit_power": "discriminant many",
        "turn": "form",
    },
    "solving": {
        "is_solved": "form number", "solutions_in_box": "form number size", "families": "form number",
        "least_member": "form vector", "is_one_family": "form vector other",
    },
    "neighbours": {"is_rich": "primes number", "neighbours": "primes", "count_rich": "primes most"},
    "residues": {
        "count_modulo": "form number modulus", "given_modulo": "form modulus", "is_met_at": "form number place",
        "is_met": "form number", "unmet_place": "form number",
    },
    "squares": {"count_squares": "many number", "squares_for": "many number", "weighted_classes": "number"},
    "masks": {
        "fillings": "mask reach looks", "verdict": "mask reach looks number", "best_number": "mask reach looks most",
        "surely_alike": "mask reach looks",
    },
    "mending": {"least_mends": "form number", "least_all_mends": "form", "fitting_forms": "forms looks"},
    "checker": {"accepts": "claim certificate"},
    "certificates": {
        "certify_number": "form number", "certify_all": "form", "certify_alike": "form other",
        "certify_proper": "form other", "certify_part": "form other", "certify_nought": "form",
        "certify_product": "form other", "certify_unit": "discriminant", "certify_solved": "form number",
        "certify_barred": "form number",
    },
}
CLASSES = {
    ("desks", "Desk"): {
        "__init__": "self form", "change": "self change", "put": "self index coefficient", "join": "self other",
        "cut": "self", "lead": "self", "undo": "self", "trial": "self", "tried": "self action",
    },
    ("shelves", "Shelf"): {
        "__init__": "self", "__setitem__": "self at worth", "__getitem__": "self at", "__contains__": "self x",
        "__len__": "self", "drop": "self name", "wish": "self wish", "lift": "self index", "undo": "self",
        "trial": "self", "tried": "self action",
    },
    ("console", "Console"): {"__init__": "self form", "say": "self line"},
}
CLASS_PROPERTIES = {("desks", "Desk"): ("form", "changes"), ("shelves", "Shelf"): ("names", "wishes", "changes")}
METHODS = {
    "read": "text", "value": "self vector", "product": "self vector other", "changed": "self change",
    "times": "self many", "joined": "self other", "__init__": "self coefficients", "__str__": "self",
    "__repr__": "self", "__eq__": "self other",
}
PROPERTIES = "coefficients unknowns table measure signature kind content is_even_between".split()


def parameters(function):
    return [(p.name, p.kind, p.default) for p in inspect.signature(function).parameters.values()]


def plain(names):
    kind = inspect.Parameter.POSITIONAL_OR_KEYWORD
    return [(name, kind, inspect.Parameter.empty) for name in names.split()]


class InterfaceTest(unittest.TestCase):

    def test_functions(self):
        for module, functions in FUNCTIONS.items():
            loaded = importlib.import_module(f"formworld.{module}")
            for name, names in functions.items():
                function = getattr(loaded, name)
                self.assertEqual(function.__module__, f"formworld.{module}")
                self.assertEqual(parameters(function), plain(names), name)

    def test_classes(self):
        for (module, name), methods in CLASSES.items():
            made = getattr(importlib.import_module(f"formworld.{module}"), name)
            self.assertEqual((made.__module__, made.__bases__), (f"formworld.{module}", (object,)))
            for method, names in methods.items():
                self.assertEqual(parameters(vars(made)[method]), plain(names), (name, method))
            for told in CLASS_PROPERTIES.get((module, name), ()):
                self.assertIsInstance(vars(made)[told], property)
                self.assertIsNone(vars(made)[told].fset)

    def test_do_all(self):
        from formworld.shelves import Shelf
        kinds = [(p.name, p.kind.name, p.default) for p in inspect.signature(vars(Shelf)["do_all"]).parameters.values()]
        empty = inspect.Parameter.empty
        self.assertEqual(kinds, [("self", "POSITIONAL_OR_KEYWORD", empty), ("deeds", "VAR_POSITIONAL", empty),
                                 ("watch", "KEYWORD_ONLY", None)])

    def test_form(self):
        from formworld.forms import Form
        own = vars(Form)
        self.assertEqual(Form.__module__, "formworld.forms")
        for name, names in METHODS.items():
            self.assertIn(name, own)
            function = own[name].__func__ if name == "read" else own[name]
            self.assertEqual(parameters(function), plain(names), name)
        self.assertIsInstance(own["read"], staticmethod)
        for name in PROPERTIES:
            self.assertIsInstance(own[name], property, name)


if __name__ == "__main__":
    unittest.main()

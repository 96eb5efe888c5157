"""That everything the document's interface lists for sheets, spaces, settings and holding exists as it is written."""

import importlib
import inspect
import unittest

FUNCTIONS = {
    "settings": {
        "is_setting": "(sheet, value)", "is_stronger": "(sheet, first, second)",
        "strongest_first": "(sheet, settings)",
    },
    "holding": {
        "held": "(space, settings)", "base": "(space, settings)", "holding_steps": "(space, settings)",
    },
}
METHODS = {
    ("sheets", "Sheet"): {
        "__init__": "(self, fields)", "__eq__": "(self, other)", "__len__": "(self)", "__str__": "(self)",
        "__repr__": "(self)", "fields": "(self)", "has_field": "(self, value)", "place": "(self, field)",
        "is_equation": "(self, value)", "equation": "(self, **coefficients)", "equation_text": "(self, equation)",
        "parse_equation": "(self, text)",
    },
    ("spaces", "Space"): {
        "__init__": "(self, sheet, equations=())", "__eq__": "(self, other)", "__len__": "(self)",
        "__repr__": "(self)", "sheet": "(self)", "rows": "(self)", "with_equations": "(self, *equations)",
        "follows": "(self, equation)", "combination": "(self, equation)", "zero_fields": "(self)",
        "are_free": "(self, fields)", "determined": "(self, fields)", "expression": "(self, field, fields)",
        "identity": "(self, field, fields)", "components": "(self)",
    },
}
CLASS_METHODS = {("sheets", "Sheet"): {"read": "(text)"}, ("spaces", "Space"): {"joined": "(first, *others)"}}
PROPERTIES = {("sheets", "Sheet"): ["width"], ("spaces", "Space"): ["freedom"]}


def module_of(name):
    return importlib.import_module(f"lastheld.{name}")


def class_of(key):
    return getattr(module_of(key[0]), key[1])


class InterfaceTest(unittest.TestCase):
    def test_functions(self):
        for name, functions in FUNCTIONS.items():
            for function, signature in functions.items():
                found = getattr(module_of(name), function)
                self.assertTrue(inspect.isfunction(found))
                self.assertEqual(found.__module__, f"lastheld.{name}")
                self.assertEqual(str(inspect.signature(found)), signature, function)

    def test_classes_are_defined_in_their_files(self):
        for key in METHODS:
            self.assertEqual(class_of(key).__module__, f"lastheld.{key[0]}")
            self.assertEqual(class_of(key).__bases__, (object,))

    def test_methods_stand_in_the_class_itself(self):
        for key, methods in METHODS.items():
            for method, signature in methods.items():
                found = vars(class_of(key))[method]
                self.assertTrue(inspect.isfunction(found))
                self.assertEqual(str(inspect.signature(found)), signature, method)

    def test_class_methods(self):
        for key, methods in CLASS_METHODS.items():
            for method, signature in methods.items():
                self.assertIsInstance(vars(class_of(key))[method], classmethod)
                self.assertEqual(str(inspect.signature(getattr(class_of(key), method))), signature)

    def test_properties(self):
        for key, names in PROPERTIES.items():
            for name in names:
                self.assertIsInstance(vars(class_of(key))[name], property)


if __name__ == "__main__":
    unittest.main()

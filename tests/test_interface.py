"""That everything the document's interface lists exists as it is written."""

import importlib
import inspect
import unittest

FUNCTIONS = {
    "names": {"is_name": "(value)", "is_integer": "(value)"},
    "rationals": {
        "is_number": "(value)", "number": "(numerator, denominator=1)", "plus": "(*numbers)", "times": "(*numbers)",
        "minus": "(first, second)", "divided": "(first, second)", "is_less": "(first, second)", "number_text": "(value)",
        "parse_number": "(text)",
    },
    "settings": {
        "is_setting": "(sheet, value)", "is_stronger": "(sheet, first, second)",
        "strongest_first": "(sheet, settings)",
    },
    "holding": {
        "held": "(space, settings)", "base": "(space, settings)", "holding_steps": "(space, settings)",
    },
    "joining": {
        "joined": "(first, *others)", "join_steps": "(first, *others)", "brings_nothing": "(state, other)",
        "forecast": "(one, other)",
    },
    "wishes": {
        "can_be_met": "(state, wishes, *, level=0)", "conflict": "(state, wishes, *, level=0)",
        "is_conflict": "(state, wishes, value, *, level=0)", "fulfil": "(replica, wishes, *, level=0)",
        "fulfil_in_group": "(group, name, wishes, *, level=0)",
    },
    "texts": {
        "setting_text": "(sheet, setting)", "parse_setting": "(sheet, text)", "state_text": "(state)",
        "parse_state": "(text)",
    },
}
METHODS = {
    ("sheets", "Sheet"): {
        "__init__": "(self, fields)", "__eq__": "(self, other)", "__len__": "(self)", "__str__": "(self)",
        "__repr__": "(self)", "fields": "(self)", "has_field": "(self, value)", "place": "(self, field)",
        "is_equation": "(self, value)", "equation": "(self, **coefficients)", "equation_text": "(self, equation)",
        "parse_equation": "(self, text)",
    },
    ("spaces", "Space"): {
        "__init__": "(self, sheet, equations=())", "__eq__": "(self, other)", "__len__": "(self)",
        "__repr__": "(self)", "sheet": "(self)", "rows": "(self)", "with_equations": "(self, *equations)",
        "follows": "(self, equation)", "combination": "(self, equation)", "zero_fields": "(self)",
        "are_free": "(self, fields)", "determined": "(self, fields)", "expression": "(self, field, fields)",
        "identity": "(self, field, fields)", "components": "(self)",
    },
    ("states", "State"): {
        "__init__": "(self, space, settings=(), *, clock=0)", "__eq__": "(self, other)", "__len__": "(self)",
        "__repr__": "(self)", "space": "(self)", "held": "(self)", "base": "(self)", "setting_of": "(self, field)",
        "value_of": "(self, field)", "all_values": "(self)", "expression": "(self, field)", "holds": "(self, setting)",
        "reason": "(self, setting)", "least_level": "(self, field)", "with_setting": "(self, setting)",
        "with_equation": "(self, equation)", "changed_fields": "(self, other)",
    },
    ("replicas", "Replica"): {
        "__init__": "(self, name, sheet)", "__eq__": "(self, other)", "__repr__": "(self)", "use_level": "(self, level)",
        "state": "(self)", "value_of": "(self, field)", "all_values": "(self)",
        "assign": "(self, field, value, *, level=None)", "preview": "(self, field, value, *, level=None)",
        "assign_all": "(self, *pairs, level=None)", "assign_named": "(self, *, level=None, **values)",
        "add_equation": "(self, equation)", "receive": "(self, state)", "take_back": "(self)", "clone": "(self)",
    },
    ("replicas", "RecordingReplica"): {
        "__init__": "(self, name, sheet, *, most=20)", "__eq__": "(self, other)", "__repr__": "(self)",
        "records": "(self)", "clone": "(self)",
    },
    ("groups", "Group"): {
        "__init__": "(self, sheet, names)", "__eq__": "(self, other)", "__len__": "(self)", "__repr__": "(self)",
        "sheet": "(self)", "names": "(self)", "state": "(self, name)", "assign": "(self, name, field, value, *, level=0)",
        "add_equation": "(self, name, equation)", "send": "(self, name)", "deliver": "(self, number, *, to)",
        "known_settings": "(self, name)", "known_equations": "(self, name)", "full_state": "(self, name)",
        "clone": "(self)",
    },
    ("console", "Console"): {
        "__init__": "(self, group)", "execute": "(self, command)", "run": "(self, commands)", "log": "(self)",
        "group": "(self)",
    },
}
CLASS_METHODS = {("sheets", "Sheet"): {"read": "(text)"}, ("spaces", "Space"): {"joined": "(first, *others)"}}
STATIC_METHODS = {("replicas", "Replica"): {"is_level": "(value)"}}
PROPERTIES = {
    ("sheets", "Sheet"): ["width"], ("spaces", "Space"): ["freedom"], ("states", "State"): ["clock", "freedom"],
    ("replicas", "Replica"): ["name", "clock", "freedom", "default_level"], ("replicas", "RecordingReplica"): ["total"],
    ("groups", "Group"): ["message_count"],
}
CLASS_VALUES = {
    ("sheets", "Sheet"): {"MAX_FIELDS": 12}, ("replicas", "Replica"): {"ORDINARY": 0, "IMPORTANT": 1, "FIXED": 2},
    ("groups", "Group"): {"MAX_REPLICAS": 6, "MAX_MESSAGES": 60},
}
BASES = {("replicas", "RecordingReplica"): ("replicas", "Replica")}


def module_of(name):
    return importlib.import_module(f"lastheld.{name}")


def class_of(key):
    return getattr(module_of(key[0]), key[1])


class InterfaceTest(unittest.TestCase):
    def test_functions(self):
        for name, functions in FUNCTIONS.items():
            for function, signature in functions.items():
                found = getattr(module_of(name), function)
                self.assertTrue(inspect.isfunction(found))
                self.assertEqual(found.__module__, f"lastheld.{name}")
                self.assertEqual(str(inspect.signature(found)), signature, function)

    def test_classes_are_defined_in_their_files(self):
        for key in METHODS:
            self.assertEqual(class_of(key).__module__, f"lastheld.{key[0]}")
            self.assertEqual(class_of(key).__bases__, (class_of(BASES[key]) if key in BASES else object,))

    def test_methods_stand_in_the_class_itself(self):
        for key, methods in METHODS.items():
            for method, signature in methods.items():
                found = vars(class_of(key))[method]
                self.assertTrue(inspect.isfunction(found))
                self.assertEqual(str(inspect.signature(found)), signature, method)

    def test_class_methods(self):
        for key, methods in CLASS_METHODS.items():
            for method, signature in methods.items():
                self.assertIsInstance(vars(class_of(key))[method], classmethod)
                self.assertEqual(str(inspect.signature(getattr(class_of(key), method))), signature)

    def test_static_methods(self):
        for key, methods in STATIC_METHODS.items():
            for method, signature in methods.items():
                self.assertIsInstance(vars(class_of(key))[method], staticmethod)
                self.assertEqual(str(inspect.signature(getattr(class_of(key), method))), signature)

    def test_class_values(self):
        for key, values in CLASS_VALUES.items():
            for name, value in values.items():
                self.assertEqual(vars(class_of(key))[name], value)
                self.assertIs(vars(class_of(key))[name].__class__, value.__class__)

    def test_properties(self):
        for key, names in PROPERTIES.items():
            for name in names:
                self.assertIsInstance(vars(class_of(key))[name], property)


if __name__ == "__main__":
    unittest.main()

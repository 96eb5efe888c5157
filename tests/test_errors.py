"""The errors: the part "lastheld/errors.py" of the document's interface, and point [2] on their fields."""

import copy
import inspect
import unittest

from lastheld import errors
from values import Anything, error_of, other_kinds

# Each base class: its own base class in Python, and its direct subclasses with their fields.
FAMILIES = {
    "LastheldError": (ValueError, {
        "InvalidName": ["value"], "InvalidNumber": ["value"], "InvalidLevel": ["value"], "InvalidClock": ["value"],
        "InvalidCount": ["value"], "InvalidFields": ["index"], "InvalidEquation": ["value"],
        "InvalidEquations": ["index"], "InvalidSetting": ["value"], "InvalidSettings": ["index"],
        "InvalidPairs": ["index"], "InvalidWishes": ["index"], "InvalidNames": ["index"], "InvalidText": ["line"],
        "InvalidCommand": ["command"],
    }),
    "MissingError": (LookupError, {
        "UnknownField": ["value"], "UnknownReplica": ["value"], "UnknownMessage": ["value"],
    }),
    "StateError": (RuntimeError, {
        "NotFree": ["given"], "NotDetermined": ["field"], "OtherSheet": ["index"],
        "Refused": ["field", "level", "cause"], "Impossible": ["conflict"], "RunFailed": ["position", "results"],
        "NothingToTakeBack": [],
    }),
    "LimitError": (ArithmeticError, {
        "TooMany": ["kind", "limit"], "NoQuotient": ["value"],
    }),
}
BASES = [ValueError, LookupError, RuntimeError, ArithmeticError]
SAMPLES = {
    "value": [1, 2], "index": -1, "line": 3, "command": "send ann", "given": ["a", "b"], "field": "b", "level": 1,
    "cause": {"s": 1, "a": (-1, 2)}, "conflict": ({"a": 1}, {}), "position": 2, "results": ["s", "-"],
    "kind": "messages", "limit": 60,
}


def classes_with_fields():
    """Each class that is listed below a base class: (class, base class, base class in Python, fields)."""
    rows = []
    for base, (own, subclasses) in FAMILIES.items():
        for name, fields in subclasses.items():
            rows.append((getattr(errors, name), getattr(errors, base), own, fields))
    return rows


def package_classes_of(kind):
    return [above for above in kind.__mro__ if above.__module__.partition(".")[0] == "lastheld"]


class RelationTest(unittest.TestCase):
    def test_base_classes(self):
        for name, (own, _) in FAMILIES.items():
            kind = getattr(errors, name)
            self.assertEqual(kind.__bases__, (own,))
            self.assertEqual(package_classes_of(kind), [kind])
            self.assertEqual([base for base in BASES if issubclass(kind, base)], [own])

    def test_subclasses(self):
        for kind, base, own, _ in classes_with_fields():
            self.assertEqual(kind.__bases__, (base,), kind)
            self.assertEqual(package_classes_of(kind), [kind, base])
            self.assertEqual([above for above in BASES if issubclass(kind, above)], [own])

    def test_no_other_class_stands_there(self):
        listed = set(FAMILIES)
        for _, subclasses in FAMILIES.values():
            listed |= set(subclasses)
        found = {name for name, _ in inspect.getmembers(errors, inspect.isclass)}
        self.assertEqual(found, listed)
        for name in listed:
            self.assertEqual(getattr(errors, name).__module__, "lastheld.errors")
            self.assertEqual(getattr(errors, name).__name__, name)

    def test_caught_by_their_base_classes(self):
        for kind, base, own, fields in classes_with_fields():
            for above in (kind, base, own):
                with self.assertRaises(above):
                    raise kind(*[SAMPLES[field] for field in fields])


class FieldTest(unittest.TestCase):
    def assert_fields(self, error, wanted):
        for field, value in wanted.items():
            self.assertEqual(getattr(error, field), value, (error.__class__, field))
        self.assertEqual(vars(error), wanted)

    def test_by_position_and_by_name(self):
        for kind, _, _, fields in classes_with_fields():
            wanted = {field: SAMPLES[field] for field in fields}
            self.assert_fields(kind(*wanted.values()), wanted)
            self.assert_fields(kind(**wanted), wanted)
            self.assert_fields(kind(**dict(reversed(wanted.items()))), wanted)

    def test_parameters_are_the_fields(self):
        for kind, _, _, fields in classes_with_fields():
            if fields:
                self.assertEqual(list(inspect.signature(kind.__init__).parameters), ["self", *fields])

    def test_fields_of_any_kind(self):
        values = [*other_kinds(), 0, -7, "", "a b", "two\nlines", (1, True), ("a", [1, {"b": (2, [])}]), 10 ** 6000]
        for kind, _, _, fields in classes_with_fields():
            for value in values:
                error = kind(*[value for _ in fields])
                for field in fields:
                    self.assertEqual(getattr(error, field), value)

    def test_fields_keep_the_difference_of_true_and_one(self):
        for value in [True, False, 1, 0]:
            self.assertIs(errors.InvalidNumber(value).value, value)
            self.assertIs(errors.InvalidNumber([(value, {"a": value})]).value[0][1]["a"], value)

    def test_an_object_stays_the_same(self):
        thing = Anything()
        self.assertIs(errors.UnknownField(thing).value, thing)

    def test_later_changes_to_an_argument_have_no_effect(self):
        value = {"a": [1, 2], "b": ({"c": 3}, [4])}
        before = copy.deepcopy(value)
        for field in ["value", "command", "given", "cause", "conflict", "results"]:
            for kind, _, _, fields in classes_with_fields():
                if field in fields:
                    passed = copy.deepcopy(value)
                    error = kind(**{**samples_of(fields), field: passed})
                    passed["a"].append(5)
                    passed["b"][0]["c"] = 6
                    passed["d"] = 7
                    self.assertEqual(getattr(error, field), before, (kind, field))

    def test_lists_and_dicts_of_an_error_belong_to_the_caller(self):
        cause = {"s": 1}
        error = errors.Refused("a", 0, cause)
        error.cause["t"] = 2
        self.assertEqual(cause, {"s": 1})
        results = ["s", ["-"]]
        error = errors.RunFailed(2, results)
        error.results[1].append("x")
        error.results.append("y")
        self.assertEqual(results, ["s", ["-"]])


def samples_of(fields):
    return {field: SAMPLES[field] for field in fields}


class MessageTest(unittest.TestCase):
    def test_with_a_message_and_without(self):
        for name in [*FAMILIES, "NothingToTakeBack"]:
            kind = getattr(errors, name)
            self.assertEqual(str(kind("some words")), "some words")
            self.assertEqual(str(kind()), "")
            self.assertIsInstance(error_of(kind, throw, kind), kind)
            self.assertIsInstance(error_of(kind, throw, kind, "some words"), kind)

    def test_every_error_can_be_shown(self):
        for kind, _, _, fields in classes_with_fields():
            error = kind(*[10 ** 6000 for _ in fields])
            self.assertIsInstance(str(error), str)
            self.assertIsInstance(repr(error), str)


def throw(kind, *arguments):
    raise kind(*arguments)


if __name__ == "__main__":
    unittest.main()

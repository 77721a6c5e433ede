import inspect
import unittest

from mergereach import errors
from tests.support import Case, EqualToAll, Thing, deep_list, endless_list

BASES = {
    "MergeError": ValueError,
    "MissingError": LookupError,
    "ReachError": RuntimeError,
    "LimitError": ArithmeticError,
}

# For each error its base class and its fields, each with a value.
FAMILIES = {
    "InvalidSchema": ("MergeError", {"problem": "many", "index": 12}),
    "InvalidVersion": ("MergeError", {"version": ("red", 5)}),
    "InvalidVersions": ("MergeError", {"index": -1}),
    "InvalidScript": ("MergeError", {"index": 3}),
    "InvalidVectors": ("MergeError", {"index": 4}),
    "InvalidVector": ("MergeError", {"vector": (1, True)}),
    "InvalidRule": ("MergeError", {"rule": ("labels", ["color"], (("red",), ["blue"]))}),
    "InvalidRules": ("MergeError", {"index": 0}),
    "InvalidNames": ("MergeError", {"index": 2}),
    "InvalidCount": ("MergeError", {"count": 21}),
    "InvalidLimit": ("MergeError", {"limit": "forty"}),
    "InvalidText": ("MergeError", {"line": 1}),
    "InvalidCommand": ("MergeError", {"command": "held"}),
    "UnknownField": ("MissingError", {"field": "size"}),
    "UnknownReplica": ("MissingError", {"name": "cid"}),
    "UnknownMessage": ("MissingError", {"number": 7}),
    "NotHeld": ("MissingError", {"version": ("red", 10)}),
    "OutOfReach": ("ReachError", {"version": ("red", 11)}),
    "NotLicensed": ("ReachError", {"version": ("gray", 14)}),
    "RuleBroken": ("ReachError", {"index": 2, "steps": [(0, 1, 0)]}),
    "RuleKept": ("ReachError", {"rule": ("counters", (1,), 0, 2)}),
    "TooMany": ("LimitError", {"limit": 40}),
}

PYTHON_ERRORS = [ValueError, LookupError, RuntimeError, ArithmeticError, KeyError, IndexError, TypeError,
                 OverflowError, ZeroDivisionError, RecursionError, NotImplementedError, UnicodeError, AttributeError]


def error_class(name):
    return getattr(errors, name)


class ErrorClasses(Case):
    def test_the_four_families_derive_directly_from_an_error_of_python(self):
        for name, base in BASES.items():
            with self.subTest(name=name):
                self.assertEqual(error_class(name).__bases__, (base,))

    def test_each_error_derives_directly_from_its_family(self):
        for name, (base, _) in FAMILIES.items():
            with self.subTest(name=name):
                self.assertEqual(error_class(name).__bases__, (error_class(base),))

    def test_no_error_belongs_to_another_one(self):
        names = list(BASES) + list(FAMILIES)
        for name in FAMILIES:
            for other in names:
                with self.subTest(name=name, other=other):
                    belongs = issubclass(error_class(name), error_class(other))
                    self.assertEqual(belongs, other in (name, FAMILIES[name][0]))

    def test_no_error_belongs_to_another_error_of_python(self):
        for name, (base, _) in FAMILIES.items():
            for other in PYTHON_ERRORS:
                with self.subTest(name=name, other=other):
                    self.assertEqual(issubclass(error_class(name), other), other is BASES[base])

    def test_no_family_belongs_to_another_one(self):
        for name in BASES:
            for other in BASES:
                with self.subTest(name=name, other=other):
                    self.assertEqual(issubclass(error_class(name), error_class(other)), name == other)

    def test_there_are_no_other_errors(self):
        found = [name for name, thing in vars(errors).items()
                 if inspect.isclass(thing) and issubclass(thing, BaseException)]
        self.assertEqual(sorted(found), sorted(list(BASES) + list(FAMILIES)))

    def test_each_error_is_defined_in_the_file(self):
        for name in list(BASES) + list(FAMILIES):
            self.assertEqual(error_class(name).__module__, "mergereach.errors")

    def test_the_families_can_be_raised_and_caught(self):
        for name, base in BASES.items():
            with self.subTest(name=name), self.assertRaises(base):
                raise error_class(name)()


class ErrorFields(Case):
    def test_the_constructor_has_exactly_the_listed_parameters(self):
        for name, (_, fields) in FAMILIES.items():
            with self.subTest(name=name):
                self.assertEqual(list(inspect.signature(error_class(name)).parameters), list(fields))

    def test_made_by_position(self):
        for name, (_, fields) in FAMILIES.items():
            with self.subTest(name=name):
                error = error_class(name)(*fields.values())
                for field, value in fields.items():
                    self.assertSame(getattr(error, field), value)

    def test_made_by_name_in_any_order(self):
        for name, (_, fields) in FAMILIES.items():
            with self.subTest(name=name):
                error = error_class(name)(**dict(reversed(fields.items())))
                for field, value in fields.items():
                    self.assertSame(getattr(error, field), value)

    def test_the_fields_are_the_only_attributes(self):
        for name, (_, fields) in FAMILIES.items():
            with self.subTest(name=name):
                self.assertEqual(sorted(vars(error_class(name)(**fields))), sorted(fields))

    def test_missing_and_superfluous_arguments_are_refused(self):
        for name, (_, fields) in FAMILIES.items():
            with self.subTest(name=name):
                with self.assertRaises(TypeError):
                    error_class(name)()
                with self.assertRaises(TypeError):
                    error_class(name)(*fields.values(), 1)

    def test_raised_and_caught_as_its_family(self):
        for name, (base, fields) in FAMILIES.items():
            with self.subTest(name=name):
                with self.assertRaises(error_class(base)) as caught:
                    raise error_class(name)(**fields)
                self.assertIs(type(caught.exception), error_class(name))

    def test_each_error_has_a_message(self):
        for name, (_, fields) in FAMILIES.items():
            with self.subTest(name=name):
                self.assertIsInstance(str(error_class(name)(**fields)), str)
                self.assertNotEqual(str(error_class(name)(**fields)), "")

    def test_fields_hold_any_value(self):
        thing = Thing()
        anything = EqualToAll()
        values = [None, True, False, 0, -1, 1, "", "red", [], (), {}, [1, True], (True, 1), {"a": [False, 0]}, thing,
                  anything, [thing], {1: thing}, b"red", len]
        for name, (_, fields) in FAMILIES.items():
            for value in values:
                with self.subTest(name=name, value=value):
                    error = error_class(name)(**{field: value for field in fields})
                    for field in fields:
                        self.assertSame(getattr(error, field), value)

    def test_huge_integers_cause_no_trouble(self):
        number = 7 * 10 ** 6000
        for name, (_, fields) in FAMILIES.items():
            error = error_class(name)(**{field: ("red", number) for field in fields})
            for field in fields:
                self.assertTrue(getattr(error, field) == ("red", number))

    def test_later_changes_have_no_effect_on_fields(self):
        for name, (_, fields) in FAMILIES.items():
            with self.subTest(name=name):
                value = [1, [2], (3, [4]), {"a": [5], "b": {"c": [6]}}]
                error = error_class(name)(**{field: value for field in fields})
                value[3]["b"]["c"].append(0)
                value[3]["a"].append(0)
                value[3]["d"] = 0
                value[2][1].append(0)
                value[1].append(0)
                value.append(0)
                for field in fields:
                    self.assertSame(getattr(error, field), [1, [2], (3, [4]), {"a": [5], "b": {"c": [6]}}])

    def test_changes_to_a_field_have_no_effect_on_the_argument(self):
        steps = [(0, 1, 0)]
        errors.RuleBroken(2, steps).steps.append((1, 1, 1))
        self.assertEqual(steps, [(0, 1, 0)])

    def test_a_rule_of_lists_is_held_apart_from_the_argument(self):
        rule = ["either", ["labels", ["color"], [["red"]]], ["counters", [1], 0, 0]]
        error = errors.InvalidRule(rule)
        rule[1][2][0].append("blue")
        self.assertEqual(error.rule, ["either", ["labels", ["color"], [["red"]]], ["counters", [1], 0, 0]])

    def test_endless_and_deep_lists(self):
        for value in (endless_list(), deep_list()):
            self.assertIsInstance(errors.InvalidVersion(value).version, list)
        endless = endless_list()
        self.assertEqual(errors.InvalidVersion(endless).version, endless)

    def test_endless_tuples_and_dicts(self):
        inner = []
        pair = (inner,)
        inner.append(pair)
        self.assertIsInstance(errors.InvalidVersion(pair).version, tuple)
        endless = {}
        endless["color"] = endless
        self.assertEqual(list(errors.InvalidVersion(endless).version), ["color"])

    def test_example_of_the_document(self):
        self.assertEqual(errors.RuleBroken(2, [(0, 1, 0)]).index, 2)


if __name__ == "__main__":
    unittest.main()

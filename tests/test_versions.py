import unittest
from collections import OrderedDict, defaultdict

from mergereach.errors import InvalidVersion, InvalidVersions
from mergereach.schemas import Schema, is_version, known_versions, labels_of, vector_of, version_of
from tests.support import (BLUE, FIELDS, MIXED, NO_DICTS, NO_LISTS, NO_NAMES, NO_NUMBERS, ONLY_COUNTERS, ONLY_LABELS,
                           RED, SIXTY, Case, EqualToAll, deep_list, endless_list, example_schema, wrong_versions)


class Versions(Case):
    def test_example_of_the_document(self):
        schema = example_schema()
        self.assertSame([is_version(schema, ("red", "open", 10)), is_version(schema, ("red", "open", True)),
                         is_version(schema, ["red", "open", 10])], [True, False, False])

    def test_versions(self):
        schema = example_schema()
        for number in (0, 1, -1, 10, SIXTY, -SIXTY):
            self.assertIs(is_version(schema, ("a", "abcdefgh", number)), True)
        self.assertIs(is_version(MIXED, (1, "red", -2, "red")), True)
        self.assertIs(is_version(ONLY_LABELS, ("mine", "theirs")), True)
        self.assertIs(is_version(ONLY_COUNTERS, (0, -5)), True)

    def test_all_other_values(self):
        schema = example_schema()
        for thing in wrong_versions() + [{"color": "red", "state": "open", "stock": 10}, "red,open,10", schema]:
            with self.subTest(thing=thing):
                self.assertIs(is_version(schema, thing), False)

    def test_one_wrong_value_at_each_place(self):
        self.assertIs(is_version(MIXED, ("red", "red", -2, "red")), False)
        self.assertIs(is_version(MIXED, (1, 1, -2, "red")), False)
        self.assertIs(is_version(MIXED, (1, "red", "red", "red")), False)
        self.assertIs(is_version(MIXED, (1, "red", -2, -2)), False)
        for truth in (True, False):
            self.assertIs(is_version(ONLY_COUNTERS, (truth, 1)), False)
            self.assertIs(is_version(ONLY_COUNTERS, (1, truth)), False)

    def test_unusual_values(self):
        schema = example_schema()
        for thing in (endless_list(), deep_list()):
            self.assertIs(is_version(schema, thing), False)
            self.assertIs(is_version(schema, (thing, "open", 10)), False)
            self.assertIs(is_version(schema, ("red", "open", thing)), False)

    def test_by_name(self):
        self.assertIs(is_version(schema=example_schema(), thing=RED), True)
        self.assertIs(is_version(thing=RED[:2], schema=example_schema()), False)


class KnownVersions(Case):
    def refused(self, schema, versions, index):
        self.assertRaisesWith(InvalidVersions, {"index": index}, known_versions, schema, versions)

    def test_example_of_the_document(self):
        self.refused(example_schema(), [("red", "open", 10), ("red", 5, 10)], 1)

    def test_one_to_forty_versions(self):
        schema = example_schema()
        for count in range(1, 41):
            versions = [("red", "open", number) for number in range(count)]
            self.assertSame(known_versions(schema, versions), versions)

    def test_none_and_forty_one_versions(self):
        schema = example_schema()
        self.refused(schema, [], -1)
        self.refused(schema, (), -1)
        self.refused(schema, [RED] * 41, -1)
        self.refused(schema, (RED,) * 41, -1)
        self.refused(schema, [None] * 41, -1)
        self.refused(schema, [RED] * 100, -1)

    def test_a_tuple_is_accepted_and_a_list_is_returned(self):
        self.assertSame(known_versions(example_schema(), (RED, BLUE)), [RED, BLUE])

    def test_repetitions_and_the_sequence_remain(self):
        versions = [BLUE, RED, BLUE, BLUE, RED]
        self.assertSame(known_versions(example_schema(), versions), versions)

    def test_values_that_are_no_lists(self):
        schema = example_schema()
        for versions in NO_LISTS + [{RED: 1}, {0: RED}, {RED}, "red,open,10", schema]:
            with self.subTest(versions=versions):
                self.refused(schema, versions, -1)

    def test_a_version_alone_is_a_list_of_no_versions(self):
        self.refused(example_schema(), RED, 0)

    def test_items_that_are_no_versions(self):
        schema = example_schema()
        for thing in wrong_versions():
            with self.subTest(thing=thing):
                self.refused(schema, [thing], 0)
                self.refused(schema, [RED, BLUE, thing, RED, None], 2)

    def test_unusual_items(self):
        schema = example_schema()
        self.refused(schema, endless_list(), 0)
        self.refused(schema, [RED, deep_list()], 1)

    def test_eight_and_nine_values_of_a_label_field(self):
        schema = example_schema()
        for place in (0, 1):
            versions = [tuple("x" * (at + 1) if spot == place else value for spot, value in enumerate(RED))
                        for at in range(7)] + [RED]
            self.assertSame(known_versions(schema, versions * 5), versions * 5)
            ninth = BLUE[:place + 1] + RED[place + 1:]
            self.refused(schema, versions + [ninth], 8)
            self.refused(schema, versions * 3 + [ninth, None], 24)
            self.refused(schema, versions + [None, ninth], 8)

    def test_each_field_has_its_own_eight_values(self):
        names = ["a", "b", "c", "d", "e", "f", "g", "h", "i"]
        versions = [(names[at], names[8 - at]) for at in range(8)]
        self.assertSame(known_versions(ONLY_LABELS, versions), versions)
        self.refused(ONLY_LABELS, versions + [(names[0], names[0])], 8)
        self.refused(ONLY_LABELS, versions + [(names[8], names[1])], 8)
        self.assertSame(known_versions(ONLY_LABELS, versions + [(names[7], names[8])]), versions + [("h", "i")])

    def test_the_last_label_field_counts_as_well(self):
        schema = Schema([("f" + letter, "mine") for letter in "abcdefghijkl"])
        versions = [("red",) * 11 + ("x" + letter,) for letter in "abcdefghi"]
        self.assertSame(known_versions(schema, versions[:8]), versions[:8])
        self.refused(schema, versions, 8)

    def test_counters_may_have_any_number_of_values(self):
        versions = [(number, -number) for number in range(40)]
        self.assertSame(known_versions(ONLY_COUNTERS, versions), versions)

    def test_by_name(self):
        self.assertSame(known_versions(schema=example_schema(), versions=[RED]), [RED])
        self.assertSame(known_versions(versions=[RED], schema=example_schema()), [RED])

    def test_no_argument_changes_and_the_list_belongs_to_the_caller(self):
        schema = example_schema()
        versions = [RED, BLUE]
        found = known_versions(schema, versions)
        found.append(RED)
        self.assertSame(versions, [RED, BLUE])
        versions.clear()
        self.assertSame(found, [RED, BLUE, RED])
        self.assertSame(known_versions(schema, (RED, BLUE)), [RED, BLUE])
        self.assertEqual(schema, example_schema())


class VersionOf(Case):
    def refused(self, values):
        return self.assertRaisesWith(InvalidVersion, {"version": values}, version_of, example_schema(), values)

    def test_example_of_the_document(self):
        self.assertSame(version_of(example_schema(), {"stock": 10, "color": "red", "state": "open"}), RED)

    def test_versions(self):
        self.assertSame(version_of(MIXED, {"a": "red", "b": "open", "n": -1, "m": 0}), (-1, "red", 0, "open"))
        self.assertSame(version_of(ONLY_COUNTERS, {"m": SIXTY, "n": -SIXTY}), (-SIXTY, SIXTY))
        self.assertSame(version_of(Schema([("a", "mine")]), {"a": "b"}), ("b",))

    def test_values_that_are_no_dicts(self):
        for values in NO_DICTS:
            with self.subTest(values=values):
                self.refused(values)

    def test_dicts_with_other_keys(self):
        full = {"color": "red", "state": "open", "stock": 10}
        for name in full:
            self.refused({key: value for key, value in full.items() if key != name})
            self.refused({key if key != name else "more": value for key, value in full.items()})
            self.refused({key if key != name else None: value for key, value in full.items()})
            self.refused({key if key != name else name.upper(): value for key, value in full.items()})
        self.refused({**full, "more": "red"})
        self.refused({**full, 0: 0})
        self.refused({**full, (): ()})
        self.refused({})
        self.refused({0: "red", 1: "open", 2: 10})

    def test_dicts_with_wrong_values(self):
        for name in NO_NAMES:
            with self.subTest(name=name):
                self.refused({"color": name, "state": "open", "stock": 10})
                self.refused({"color": "red", "state": name, "stock": 10})
        for number in NO_NUMBERS:
            with self.subTest(number=number):
                self.refused({"color": "red", "state": "open", "stock": number})

    def test_by_name(self):
        values = {"color": "red", "state": "open", "stock": 10}
        self.assertSame(version_of(schema=example_schema(), values=values), RED)
        self.assertSame(version_of(values=values, schema=example_schema()), RED)

    def test_no_argument_changes(self):
        values = {"stock": 10, "color": "red", "state": "open"}
        version = version_of(example_schema(), values)
        self.assertSame(values, {"stock": 10, "color": "red", "state": "open"})
        values["stock"] = 11
        self.assertSame(version, RED)

    def test_other_kinds_of_dicts(self):
        self.assertSame(version_of(example_schema(), OrderedDict(stock=10, state="open", color="red")), RED)
        filling = defaultdict(lambda: "red", color="red", state="open", more=10)
        with self.assertRaises(InvalidVersion) as caught:
            version_of(example_schema(), filling)
        self.assertEqual(caught.exception.version, {"color": "red", "state": "open", "more": 10})
        self.assertEqual(sorted(filling), ["color", "more", "state"])

    def test_later_changes_do_not_change_the_error(self):
        values = {"color": "red"}
        error = self.refused(values)
        values["state"] = "open"
        self.assertSame(error.version, {"color": "red"})


class LabelsAndVectors(Case):
    def test_example_of_the_document(self):
        schema = example_schema()
        self.assertSame([labels_of(schema, RED), vector_of(schema, RED)], [("red", "open"), (10,)])

    def test_the_sequence_of_the_fields_remains(self):
        version = (7, "red", -8, "open")
        self.assertSame(labels_of(MIXED, version), ("red", "open"))
        self.assertSame(vector_of(MIXED, version), (7, -8))

    def test_without_labels_and_without_counters(self):
        self.assertSame(labels_of(ONLY_COUNTERS, (0, SIXTY)), ())
        self.assertSame(vector_of(ONLY_COUNTERS, (0, -SIXTY)), (0, -SIXTY))
        self.assertSame(labels_of(ONLY_LABELS, ("x", "x")), ("x", "x"))
        self.assertSame(vector_of(ONLY_LABELS, ("x", "x")), ())

    def test_values_that_are_no_versions(self):
        schema = example_schema()
        for version in wrong_versions() + [EqualToAll()]:
            for function in (labels_of, vector_of):
                with self.subTest(version=version, function=function):
                    self.assertRaisesWith(InvalidVersion, {"version": version}, function, schema, version)

    def test_versions_of_another_schema(self):
        for function in (labels_of, vector_of):
            self.assertRaisesWith(InvalidVersion, {"version": RED}, function, MIXED, RED)
            self.assertRaisesWith(InvalidVersion, {"version": RED}, function, ONLY_LABELS, RED)

    def test_unusual_values(self):
        for function in (labels_of, vector_of):
            for version in (endless_list(), deep_list(), ("red", "open", deep_list())):
                with self.assertRaises(InvalidVersion):
                    function(example_schema(), version)

    def test_by_name(self):
        self.assertSame(labels_of(schema=example_schema(), version=BLUE), ("blue", "shut"))
        self.assertSame(vector_of(version=BLUE, schema=example_schema()), (14,))

    def test_no_argument_changes(self):
        schema = example_schema()
        wrong = ["red", "open", [10]]
        for function in (labels_of, vector_of):
            error = self.assertRaisesWith(InvalidVersion, {"version": wrong}, function, schema, wrong)
            self.assertSame(wrong, ["red", "open", [10]])
            error.version.append(1)
            self.assertSame(wrong, ["red", "open", [10]])
        self.assertSame(schema.fields(), FIELDS)


if __name__ == "__main__":
    unittest.main()

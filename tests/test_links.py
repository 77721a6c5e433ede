import itertools
import random
import unittest

from mergereach.errors import InvalidVersions, UnknownField
from mergereach.links import are_linked, blocks_of, field_tuples, meeting_script, seen_values
from mergereach.schemas import Schema
from mergereach.scripts import result_of, run_script
from tests.support import (BLUE, FIELDS, LARGE, MIXED, NO_LISTS, NO_STRINGS, ONLY_COUNTERS, ONLY_LABELS, POLICIES, RED,
                           SIXTY, Case, EqualToAll, deep_list, defined_link, endless_list, example_schema,
                           label_schema, produced, random_cases, random_version, small_cases, wrong_versions)

KNOWN = [RED, BLUE]
THREE = KNOWN + [("gray", "held", 10)]
# Nothing here is the name of a label field of the example schema.
NO_FIELDS = NO_STRINGS + ["", "stock", "Color", "colour", "color ", " color", "red", "color,state", "0"]


class Calls(Case):
    """Each function, with good arguments after the known versions."""

    calls = [(seen_values, ["color"]), (are_linked, ["color", "state"]), (blocks_of, []),
             (field_tuples, [["color"]]), (meeting_script, ["color", "red", "state", "open"])]

    def test_values_that_are_no_known_versions(self):
        schema = example_schema()
        for function, others in self.calls:
            for versions in NO_LISTS + [[], (), [RED] * 41, {0: RED}, schema]:
                with self.subTest(function=function, versions=versions):
                    self.assertRaisesWith(InvalidVersions, {"index": -1}, function, schema, versions, *others)

    def test_items_that_are_no_versions(self):
        schema = example_schema()
        for function, others in self.calls:
            for version in wrong_versions() + [deep_list(), endless_list()]:
                with self.subTest(function=function):
                    self.assertRaisesWith(InvalidVersions, {"index": 2}, function, schema,
                                          [RED, BLUE, version, None], *others)

    def test_a_ninth_value(self):
        versions = [("x" * at, "open", 0) for at in range(1, 10)]
        for function, others in self.calls:
            function(example_schema(), versions[:8] * 5, *others)
            self.assertRaisesWith(InvalidVersions, {"index": 8}, function, example_schema(), versions, *others)

    def test_wrong_versions_come_before_wrong_fields(self):
        schema = example_schema()
        calls = [(seen_values, [None]), (are_linked, [None, None]), (field_tuples, [[None]]),
                 (meeting_script, [None, None, None, None])]
        for function, others in calls:
            self.assertRaisesWith(InvalidVersions, {"index": -1}, function, schema, [], *others)
            self.assertRaisesWith(InvalidVersions, {"index": 1}, function, schema, [RED, None], *others)
            self.assertRaisesWith(UnknownField, {"field": None}, function, schema, [RED], *others)

    def test_lists_and_tuples_and_repetitions(self):
        schema = example_schema()
        for function, others in self.calls:
            wanted = function(schema, KNOWN, *others)
            self.assertSame(function(schema, tuple(KNOWN), *others), wanted)
            self.assertSame(function(schema, KNOWN, *others), wanted)
            if function is not meeting_script:
                self.assertSame(function(schema, KNOWN * 20, *others), wanted)
                self.assertSame(function(schema, [RED, RED, BLUE, RED, BLUE], *others), wanted)

    def test_no_argument_changes(self):
        schema = example_schema()
        for function, others in self.calls:
            versions = list(THREE)
            function(schema, versions, *others)
            self.assertSame([versions, schema.fields()], [THREE, FIELDS])

    def test_later_changes_have_no_effect(self):
        schema = example_schema()
        for function, others in self.calls:
            versions = list(THREE)
            found = function(schema, versions, *others)
            versions.clear()
            self.assertSame(found, function(schema, THREE, *others))
            if isinstance(found, list):
                found.append(None)
                found = function(schema, THREE, *others)
                self.assertNotIn(None, found)


class SeenValues(Case):
    def test_example_of_the_document(self):
        self.assertSame(seen_values(example_schema(), THREE, "color"), ["red", "blue", "gray"])

    def test_the_sequence_in_which_they_first_occur(self):
        versions = [("z", "b", 0), ("a", "b", 0), ("z", "a", 0), ("m", "b", 0), ("a", "c", 0)]
        self.assertSame(seen_values(example_schema(), versions, "color"), ["z", "a", "m"])
        self.assertSame(seen_values(example_schema(), versions, "state"), ["b", "a", "c"])

    def test_fields_among_counters(self):
        versions = [(1, "x", 2, "p"), (1, "y", 3, "p"), (4, "x", 5, "q")]
        self.assertSame(seen_values(MIXED, versions, "a"), ["x", "y"])
        self.assertSame(seen_values(MIXED, versions, "b"), ["p", "q"])

    def test_one_and_forty_versions(self):
        self.assertSame(seen_values(example_schema(), [RED], "state"), ["open"])
        versions = [("x" * (at % 8 + 1), "open", at) for at in range(40)]
        self.assertSame(seen_values(example_schema(), versions, "color"), ["x" * at for at in range(1, 9)])

    def test_values_that_are_no_label_fields(self):
        for field in NO_FIELDS:
            with self.subTest(field=field):
                self.assertRaisesWith(UnknownField, {"field": field}, seen_values, example_schema(), KNOWN, field)
        self.assertRaisesWith(UnknownField, {"field": "n"}, seen_values, ONLY_COUNTERS, [(1, 2)], "n")

    def test_by_name(self):
        self.assertSame(seen_values(schema=example_schema(), versions=KNOWN, field="state"), ["open", "shut"])
        self.assertSame(seen_values(field="state", versions=KNOWN, schema=example_schema()), ["open", "shut"])


class Links(Case):
    def linked(self, policies, known, answer):
        schema = label_schema(*policies)
        self.assertIs(are_linked(schema, known, "a", "b"), answer)
        self.assertIs(are_linked(schema, known, "b", "a"), answer)

    def test_example_of_the_document(self):
        schema = example_schema()
        self.assertSame([are_linked(schema, KNOWN, "color", "state"), are_linked(schema, THREE, "color", "state")],
                        [True, False])

    def test_one_seen_value(self):
        for policies in itertools.product(POLICIES, repeat=2):
            self.linked(policies, [("x", "y")], True)
            self.linked(policies, [("x", "x")] * 3, True)
            self.linked(policies, [("x", "x"), ("x", "y")], False)

    def test_two_seen_values(self):
        for policies in itertools.product(POLICIES, repeat=2):
            self.linked(policies, [("x", "p"), ("y", "q")], True)
            self.linked(policies, [("x", "y"), ("y", "x"), ("x", "y")], True)
            self.linked(policies, [("x", "p"), ("y", "q"), ("x", "q")], False)
            self.linked(policies, [("x", "p"), ("y", "q"), ("z", "q")], False)

    def test_three_seen_values_need_the_same_policy(self):
        known = [("x", "p"), ("y", "q"), ("z", "r"), ("y", "q")]
        for policies in itertools.product(POLICIES, repeat=2):
            self.linked(policies, known, policies[0] == policies[1])
            self.linked(policies, known + [("x", "q")], False)

    def test_eight_seen_values(self):
        known = [("x" * at, "y" * (9 - at)) for at in range(1, 9)] * 5
        for policies in itertools.product(POLICIES, repeat=2):
            self.linked(policies, known, policies[0] == policies[1])

    def test_by_the_definition(self):
        cases = list(small_cases()) + list(random_cases(1, 150))
        for schema, known in cases:
            for one, other in itertools.product(schema.names(), repeat=2):
                self.assertIs(are_linked(schema, known, one, other), defined_link(schema, known, one, other))

    def test_each_field_is_linked_with_itself(self):
        for known in ([RED], KNOWN, THREE, THREE + [("red", "held", 1)]):
            for field in ("color", "state"):
                self.assertIs(are_linked(example_schema(), known, field, field), True)

    def test_counters_do_not_count(self):
        self.assertIs(are_linked(example_schema(), [RED, BLUE, RED[:2] + (11,)], "color", "state"), True)

    def test_values_that_are_no_label_fields(self):
        schema = example_schema()
        for field in NO_FIELDS:
            with self.subTest(field=field):
                self.assertRaisesWith(UnknownField, {"field": field}, are_linked, schema, KNOWN, field, "state")
                self.assertRaisesWith(UnknownField, {"field": field}, are_linked, schema, KNOWN, "color", field)
                self.assertRaisesWith(UnknownField, {"field": field}, are_linked, schema, KNOWN, field, "else")

    def test_by_name(self):
        self.assertIs(are_linked(schema=example_schema(), versions=THREE, one="color", other="state"), False)
        self.assertIs(are_linked(other="state", one="color", versions=KNOWN, schema=example_schema()), True)


class Blocks(Case):
    def test_example_of_the_document(self):
        schema = example_schema()
        self.assertSame([blocks_of(schema, KNOWN), blocks_of(schema, THREE)],
                        [[("color", "state")], [("color",), ("state",)]])

    def test_no_label_field(self):
        self.assertSame(blocks_of(ONLY_COUNTERS, [(1, 2), (3, 4)]), [])

    def test_one_block_of_all_fields(self):
        versions = [("x",) * 12 + (1, 2, 3, 4), ("y",) * 12 + (1, 2, 3, 4)]
        self.assertSame(blocks_of(LARGE, versions), [tuple(LARGE.label_names())])
        self.assertSame(blocks_of(LARGE, versions[:1]), [tuple(LARGE.label_names())])

    def test_one_block_for_each_policy(self):
        versions = [(letter,) * 12 + (0, 0, 0, 0) for letter in "xyz"]
        mine = tuple("f" + letter for letter in "aceg")
        others = tuple("f" + letter for letter in "bdfhijkl")
        self.assertSame(blocks_of(LARGE, versions), [mine, others])

    def test_the_sequence_of_blocks_and_fields(self):
        schema = Schema([("d", "mine"), ("n", "counter"), ("b", "mine"), ("c", "mine"), ("a", "mine")])
        versions = [("x", 0, "p", "x", "p"), ("y", 0, "p", "y", "p"), ("y", 0, "q", "y", "q")]
        self.assertSame(blocks_of(schema, versions), [("d", "c"), ("b", "a")])

    def test_blocks_of_one_field(self):
        versions = list(itertools.product("xy", repeat=3))
        self.assertSame(blocks_of(label_schema("mine", "theirs", "mine"), versions), [("a",), ("b",), ("c",)])
        self.assertSame(blocks_of(label_schema("theirs"), [("x",)]), [("a",)])

    def test_by_the_definition(self):
        for schema, known in list(small_cases()) + list(random_cases(2, 150, 6)):
            names = schema.names()
            blocks = [tuple(other for other in names if defined_link(schema, known, name, other)) for name in names]
            self.assertSame(blocks_of(schema, known), list(dict.fromkeys(blocks)))

    def test_each_label_field_is_in_one_block(self):
        source = random.Random(3)
        versions = [random_version(source, LARGE) for _ in range(3)]
        self.assertEqual(sorted(itertools.chain(*blocks_of(LARGE, versions))), sorted(LARGE.label_names()))

    def test_by_name(self):
        self.assertSame(blocks_of(versions=KNOWN, schema=example_schema()), [("color", "state")])


class FieldTuples(Case):
    def test_example_of_the_document(self):
        self.assertSame(field_tuples(example_schema(), KNOWN, ("color", "state")),
                        [("red", "open"), ("blue", "shut")])

    def test_the_sequence_in_which_they_first_occur(self):
        versions = [("z", "b", 0), ("a", "b", 1), ("z", "b", 2), ("a", "a", 3), ("a", "b", 4)]
        self.assertSame(field_tuples(example_schema(), versions, ["color", "state"]),
                        [("z", "b"), ("a", "b"), ("a", "a")])
        self.assertSame(field_tuples(example_schema(), versions, ["state"]), [("b",), ("a",)])

    def test_names_in_any_sequence(self):
        versions = [(1, "x", 2, "p"), (1, "y", 3, "p")]
        self.assertSame(field_tuples(MIXED, versions, ["b", "a"]), [("p", "x"), ("p", "y")])
        self.assertSame(field_tuples(MIXED, versions, ["b"]), [("p",)])

    def test_no_names(self):
        for fields in ([], ()):
            self.assertSame(field_tuples(example_schema(), KNOWN, fields), [()])
            self.assertSame(field_tuples(ONLY_COUNTERS, [(1, 2), (3, 4)], fields), [()])

    def test_repeated_names(self):
        self.assertSame(field_tuples(example_schema(), KNOWN, ["color", "state", "color"]),
                        [("red", "open", "red"), ("blue", "shut", "blue")])
        self.assertSame(field_tuples(example_schema(), [RED], ["state"] * 400), [("open",) * 400])

    def test_twelve_names(self):
        versions = [(letter,) * 12 + (0, 0, 0, 0) for letter in "xyx"]
        self.assertSame(field_tuples(LARGE, versions, LARGE.label_names()), [("x",) * 12, ("y",) * 12])

    def test_items_that_are_no_label_fields(self):
        for field in NO_FIELDS:
            with self.subTest(field=field):
                for fields in ([field], ["color", field, "else"], ("state", "color", field), [field, None]):
                    self.assertRaisesWith(UnknownField, {"field": field}, field_tuples, example_schema(), KNOWN, fields)

    def test_no_argument_changes(self):
        fields = ["color", "state"]
        found = field_tuples(example_schema(), KNOWN, fields)
        self.assertSame(fields, ["color", "state"])
        fields.clear()
        self.assertSame(found, [("red", "open"), ("blue", "shut")])

    def test_by_name(self):
        self.assertSame(field_tuples(fields=["state"], versions=KNOWN, schema=example_schema()),
                        [("open",), ("shut",)])


class Meetings(Case):
    def meets(self, schema, known, one, value, other, second):
        """Whether there is a script; if there is one, its result has the two values."""
        steps = meeting_script(schema, known, one, value, other, second)
        if steps is None:
            return False
        self.assertIsInstance(steps, list)
        result = result_of(schema, known, steps)
        self.assertEqual((result[schema.names().index(one)], result[schema.names().index(other)]), (value, second))
        return True

    def check_all(self, schema, known, versions):
        """Scripts lead to exactly the values that stand together in these versions."""
        names = schema.names()
        for (at, one), (to, other) in itertools.product(enumerate(names), repeat=2):
            together = {(version[at], version[to]) for version in versions}
            for value, second in itertools.product("xyzw", repeat=2):
                found = self.meets(schema, known, one, value, other, second)
                self.assertIs(found, (value, second) in together, (schema, known, one, value, other, second))

    def test_examples_of_the_document(self):
        schema = example_schema()
        steps = meeting_script(schema, THREE, "color", "red", "state", "shut")
        self.assertSame(result_of(schema, THREE, steps)[:2], ("red", "shut"))
        self.assertIs(meeting_script(schema, KNOWN, "color", "red", "state", "shut"), None)

    def test_two_fields_with_up_to_three_values(self):
        for schema, known in small_cases():
            self.check_all(schema, known, produced(schema, known))

    def test_several_fields(self):
        for schema, known in random_cases(4, 60, 3):
            self.check_all(schema, known, produced(schema, known))

    def test_repeated_versions(self):
        for schema, known in random_cases(5, 40, 3):
            self.check_all(schema, known * 3, produced(schema, known))

    def test_one_field_twice(self):
        schema = example_schema()
        for value, second in itertools.product(["red", "blue", "gray", "black"], repeat=2):
            wanted = value == second and value != "black"
            self.assertIs(self.meets(schema, THREE, "color", value, "color", second), wanted)

    def test_fields_among_counters(self):
        known = [(1, "x", 2, "p"), (3, "y", 5, "q"), (7, "z", 11, "r")]
        for value, second in itertools.product("xyz", "pqr"):
            self.assertTrue(self.meets(MIXED, known, "a", value, "b", second))
            self.assertTrue(self.meets(MIXED, known, "b", second, "a", value))

    def test_eight_values_and_forty_versions(self):
        source = random.Random(6)
        schema = label_schema("mine", "theirs", "theirs", "mine")
        letters = "stuvwxyz"
        known = [(letter, letter, letters[7 - at], letters[at // 2]) for at, letter in enumerate(letters)] * 5
        source.shuffle(known)
        for one, other in itertools.product("abcd", repeat=2):
            pairs = field_tuples(schema, known, [one, other])
            for value in seen_values(schema, known, one):
                for second in seen_values(schema, known, other):
                    wanted = (value, second) in pairs or not are_linked(schema, known, one, other)
                    self.assertIs(self.meets(schema, known, one, value, other, second), wanted)

    def test_twelve_label_fields(self):
        source = random.Random(7)
        known = [random_version(source, LARGE) for _ in range(4)]
        for one, other in itertools.product(LARGE.label_names(), repeat=2):
            pairs = field_tuples(LARGE, known, [one, other])
            for value in seen_values(LARGE, known, one):
                for second in seen_values(LARGE, known, other):
                    wanted = (value, second) in pairs or not are_linked(LARGE, known, one, other)
                    self.assertIs(self.meets(LARGE, known, one, value, other, second), wanted)

    def test_great_counters(self):
        known = [("x", "p", SIXTY), ("y", "q", -SIXTY), ("z", "r", 0)]
        self.assertTrue(self.meets(example_schema(), known, "color", "x", "state", "q"))

    def test_any_values(self):
        schema = example_schema()
        things = NO_STRINGS + ["", "Red", "black", "red ", "open", ("red",), endless_list(), deep_list(), EqualToAll()]
        for thing in things:
            for known in (KNOWN, THREE, [RED]):
                self.assertIs(meeting_script(schema, known, "color", thing, "state", "open"), None)
                self.assertIs(meeting_script(schema, known, "state", "open", "color", thing), None)
                self.assertIs(meeting_script(schema, known, "color", thing, "color", thing), None)
                self.assertIs(meeting_script(schema, known, "color", thing, "state", None), None)

    def test_values_that_are_no_label_fields(self):
        schema = example_schema()
        for field in NO_FIELDS:
            with self.subTest(field=field):
                for one, other in [(field, "state"), ("color", field), (field, "else")]:
                    self.assertRaisesWith(UnknownField, {"field": field}, meeting_script, schema, KNOWN, one, "red",
                                          other, "open")
                self.assertRaisesWith(UnknownField, {"field": field}, meeting_script, schema, KNOWN, "state", None,
                                      field, [])

    def test_by_name(self):
        steps = meeting_script(schema=example_schema(), versions=THREE, one="state", value="held", other="color",
                               second="blue")
        self.assertSame(result_of(example_schema(), THREE, steps)[:2], ("blue", "held"))
        steps = meeting_script(second="blue", other="color", value="held", one="state", versions=THREE,
                               schema=example_schema())
        self.assertSame(result_of(example_schema(), THREE, steps)[:2], ("blue", "held"))


class Guarantees(Case):
    def test_labels_in_reach_have_known_tuples_in_each_block(self):
        for schema, known in list(small_cases()) + list(random_cases(8, 60, 3)):
            names = schema.names()
            parts = [(block, field_tuples(schema, known, block)) for block in blocks_of(schema, known)]
            wanted = {labels for labels in itertools.product("xyz", repeat=len(names))
                      if all(tuple(labels[names.index(name)] for name in block) in tuples for block, tuples in parts)}
            self.assertEqual(produced(schema, known), wanted)

    def test_links_last(self):
        source = random.Random(9)
        for schema, known in random_cases(10, 60, 6):
            steps = [tuple(source.randrange(len(known) + at) for _ in range(3)) for at in range(60)]
            results = run_script(schema, known, steps)
            for one, other in itertools.product(schema.names(), repeat=2):
                if are_linked(schema, known, one, other):
                    places = [schema.names().index(name) for name in (one, other)]
                    pairs = field_tuples(schema, known, [one, other])
                    for version in results:
                        self.assertIn(tuple(version[place] for place in places), pairs)

    def test_links_stay_when_results_become_known(self):
        schema = ONLY_LABELS
        results = run_script(schema, [("x", "p"), ("y", "q")], [(0, 1, 0), (1, 0, 2), (3, 2, 0)])
        self.assertIs(are_linked(schema, [("x", "p"), ("y", "q")] + results, "a", "b"), True)


if __name__ == "__main__":
    unittest.main()

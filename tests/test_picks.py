import itertools
import random
import unittest

from mergereach.errors import InvalidVersion
from mergereach.picks import conflicts_of, double_pick, pick, pick_many
from mergereach.schemas import Schema
from tests.support import (BLUE, FIELDS, LARGE, MIXED, ONLY_COUNTERS, ONLY_LABELS, RED, SIXTY, Case, EqualToAll,
                           deep_list, defined_pick, endless_list, example_schema, random_schema, random_version,
                           wrong_versions)

# The five cases of equal and different values: ours, base, theirs, and the results of the two policies.
CASES = [
    ("red", "red", "red", "red", "red"),
    ("red", "red", "blue", "blue", "blue"),
    ("blue", "red", "red", "blue", "blue"),
    ("blue", "red", "blue", "blue", "blue"),
    ("blue", "red", "gray", "blue", "gray"),
]
THREE_AT_A_TIME = [pick, conflicts_of, double_pick]


class Pick(Case):
    def test_examples_of_the_document(self):
        schema = example_schema()
        self.assertSame(pick(schema, ("red", "open", 10), ("blue", "shut", 14), ("red", "shut", 13)),
                        ("red", "open", 9))
        self.assertSame(pick(schema, ("red", "open", 10), ("blue", "shut", 14), ("gray", "held", 13)),
                        ("red", "held", 9))

    def test_the_five_cases_under_both_policies(self):
        for ours, base, theirs, mine, other in CASES:
            with self.subTest(ours=ours, base=base, theirs=theirs):
                self.assertSame(pick(Schema([("a", "mine")]), (ours,), (base,), (theirs,)), (mine,))
                self.assertSame(pick(Schema([("a", "theirs")]), (ours,), (base,), (theirs,)), (other,))
                self.assertSame(pick(ONLY_LABELS, (ours, ours), (base, base), (theirs, theirs)), (mine, other))

    def test_each_field_has_its_own_case(self):
        for one, two in itertools.product(CASES, CASES):
            self.assertSame(pick(ONLY_LABELS, *zip(one[:3], two[:3])), (one[3], two[4]))
            swapped = Schema([("a", "theirs"), ("b", "mine")])
            self.assertSame(pick(swapped, *zip(one[:3], two[:3])), (one[4], two[3]))

    def test_counters(self):
        schema = Schema([("n", "counter")])
        for ours, base, theirs, result in [(0, 0, 0, 0), (10, 14, 13, 9), (1, 2, 3, 2), (5, 5, 8, 8), (8, 5, 5, 8),
                                           (8, 5, 8, 11), (-3, 4, -5, -12), (0, -7, 0, 7)]:
            self.assertSame(pick(schema, (ours,), (base,), (theirs,)), (result,))

    def test_great_counters(self):
        result = pick(ONLY_COUNTERS, (SIXTY, -SIXTY), (-SIXTY, SIXTY), (SIXTY, -SIXTY))
        self.assertSame(result, (3 * SIXTY, -3 * SIXTY))
        again = pick(ONLY_COUNTERS, result, (-SIXTY, SIXTY), result)
        self.assertSame(again, (7 * SIXTY, -7 * SIXTY))

    def test_fields_in_any_sequence(self):
        values = {"a": ("red", "blue", "gray"), "b": ("red", "blue", "gray"), "n": (5, 3, 10), "m": (1, 2, -4)}
        results = {"a": "red", "b": "gray", "n": 12, "m": -5}
        for names in itertools.permutations("abnm"):
            schema = Schema([(name, {"a": "mine", "b": "theirs"}.get(name, "counter")) for name in names])
            found = pick(schema, *zip(*[values[name] for name in names]))
            self.assertSame(found, tuple(results[name] for name in names))

    def test_counters_alone_and_labels_alone(self):
        self.assertSame(pick(ONLY_COUNTERS, (1, 2), (3, 5), (7, 11)), (5, 8))
        self.assertSame(pick(ONLY_LABELS, ("x", "x"), ("y", "y"), ("z", "z")), ("x", "z"))

    def test_twelve_label_fields_and_four_counters(self):
        ours = ("x",) * 12 + (1, 2, 3, 4)
        base = ("y",) * 12 + (10, 10, 10, 10)
        theirs = ("z",) * 12 + (100, 200, 300, 400)
        labels = tuple("x" if letter in "aceg" else "z" for letter in "abcdefghijkl")
        self.assertSame(pick(LARGE, ours, base, theirs), labels + (91, 192, 293, 394))

    def test_many_picks_by_the_definition(self):
        source = random.Random(1)
        for _ in range(500):
            schema = random_schema(source)
            versions = [random_version(source, schema) for _ in range(3)]
            self.assertSame(pick(schema, *versions), defined_pick(schema, *versions))

    def test_the_policies_mirror_each_other(self):
        for ours, base, theirs in itertools.product("xyz", repeat=3):
            mine = pick(Schema([("a", "mine")]), (ours,), (base,), (theirs,))
            self.assertSame(pick(Schema([("a", "theirs")]), (theirs,), (base,), (ours,)), mine)

    def test_the_arguments_have_their_places(self):
        schema = example_schema()
        self.assertSame(pick(schema=schema, ours=RED, base=BLUE, theirs=("gray", "held", 13)), ("red", "held", 9))
        self.assertSame(pick(theirs=("gray", "held", 13), base=BLUE, ours=RED, schema=schema), ("red", "held", 9))
        self.assertSame(pick(schema, RED, theirs=("gray", "held", 13), base=BLUE), ("red", "held", 9))


class PickMany(Case):
    def test_example_of_the_document(self):
        self.assertSame(pick_many(example_schema(), ("red", "open", 10), ("red", "open", 10), ("blue", "open", 11),
                                  ("red", "shut", 13)), ("blue", "shut", 14))

    def test_none_of_theirs(self):
        self.assertSame(pick_many(example_schema(), RED, BLUE), RED)
        self.assertSame(pick_many(schema=example_schema(), ours=BLUE, base=RED), BLUE)

    def test_one_of_theirs_is_a_pick(self):
        source = random.Random(2)
        for _ in range(100):
            schema = random_schema(source)
            versions = [random_version(source, schema) for _ in range(3)]
            self.assertSame(pick_many(schema, *versions), pick(schema, *versions))

    def test_several_of_theirs_one_after_another(self):
        source = random.Random(3)
        for count in (2, 3, 4, 7, 40):
            schema = random_schema(source)
            ours, base, *theirs = [random_version(source, schema) for _ in range(count + 2)]
            result = ours
            for version in theirs:
                result = defined_pick(schema, result, base, version)
            self.assertSame(pick_many(schema, ours, base, *theirs), result)

    def test_the_sequence_of_theirs_counts(self):
        schema, base = ONLY_LABELS, ("x", "x")
        self.assertSame(pick_many(schema, base, base, ("y", "y"), ("z", "z")), ("y", "z"))
        self.assertSame(pick_many(schema, base, base, ("z", "z"), ("y", "y")), ("z", "y"))

    def test_each_change_starts_from_the_base(self):
        self.assertSame(pick_many(ONLY_COUNTERS, (0, 0), (1, 1), (2, 3), (4, 9), (1, 1)), (4, 10))

    def test_the_first_wrong_argument_decides(self):
        schema = example_schema()
        for version in wrong_versions():
            with self.subTest(version=version):
                for place in range(5):
                    versions = [RED, BLUE, RED, BLUE, RED]
                    versions[place:] = [version] + [None] * (4 - place)
                    self.assertRaisesWith(InvalidVersion, {"version": version}, pick_many, schema, *versions)

    def test_a_wrong_base_without_theirs(self):
        schema = example_schema()
        self.assertRaisesWith(InvalidVersion, {"version": ()}, pick_many, schema, RED, ())
        self.assertRaisesWith(InvalidVersion, {"version": None}, pick_many, schema, None, ())


class Conflicts(Case):
    def test_example_of_the_document(self):
        self.assertSame(conflicts_of(example_schema(), ("red", "open", 10), ("blue", "shut", 14), ("gray", "open", 13)),
                        ["color"])

    def test_only_the_last_of_the_five_cases_is_a_conflict(self):
        for kind in ("mine", "theirs"):
            for case in CASES:
                found = conflicts_of(Schema([("a", kind)]), *[(value,) for value in case[:3]])
                self.assertSame(found, ["a"] if case == CASES[4] else [])

    def test_counters_have_no_conflicts(self):
        self.assertSame(conflicts_of(ONLY_COUNTERS, (1, 2), (3, 4), (5, 6)), [])
        self.assertSame(conflicts_of(MIXED, (1, "x", 1, "x"), (2, "y", 2, "y"), (3, "z", 3, "y")), ["a"])

    def test_the_sequence_of_the_fields(self):
        versions = [(letter,) * 12 + (at,) * 4 for at, letter in enumerate("xyz")]
        self.assertSame(conflicts_of(LARGE, *versions), LARGE.label_names())
        schema = Schema([("z", "mine"), ("m", "theirs"), ("a", "mine")])
        self.assertSame(conflicts_of(schema, ("x", "x", "x"), ("y", "x", "y"), ("z", "z", "z")), ["z", "a"])

    def test_the_policies_differ_exactly_in_conflicts(self):
        source = random.Random(4)
        names = "abcdef"
        for _ in range(200):
            versions = [tuple(source.choice("xyz") for _ in names) for _ in range(3)]
            mine, theirs = [Schema([(name, kind) for name in names]) for kind in ("mine", "theirs")]
            differing = [name for name, one, two in zip(names, pick(mine, *versions), pick(theirs, *versions))
                         if one != two]
            self.assertSame(conflicts_of(mine, *versions), differing)
            self.assertSame(conflicts_of(theirs, *versions), differing)

    def test_by_name(self):
        self.assertSame(conflicts_of(theirs=("gray", "held", 1), base=BLUE, ours=RED, schema=example_schema()),
                        ["color", "state"])

    def test_the_list_belongs_to_the_caller(self):
        schema = example_schema()
        for _ in range(2):
            found = conflicts_of(schema, RED, BLUE, ("gray", "held", 1))
            self.assertSame(found, ["color", "state"])
            found.clear()
        self.assertSame(schema.fields(), FIELDS)


class DoublePick(Case):
    def test_example_of_the_document(self):
        self.assertSame(double_pick(example_schema(), ("red", "open", 10), ("blue", "shut", 14), ("red", "shut", 0)),
                        ("red", "shut", 14))

    def test_it_is_a_pick_over_a_pick(self):
        source = random.Random(5)
        for _ in range(300):
            schema = random_schema(source)
            one, two, three = [random_version(source, schema) for _ in range(3)]
            wanted = defined_pick(schema, one, defined_pick(schema, one, two, three), three)
            self.assertSame(double_pick(schema, one, two, three), wanted)

    def test_it_has_the_counters_of_two_and_the_values_of_a_majority(self):
        source = random.Random(6)
        for _ in range(300):
            schema = random_schema(source)
            versions = [random_version(source, schema) for _ in range(3)]
            found = double_pick(schema, *versions)
            for (_, kind), value, *three in zip(schema.fields(), found, *versions):
                if kind == "counter":
                    self.assertSame(value, three[1])
                elif len(set(three)) < 3:
                    self.assertEqual(three.count(value) >= 2, True)

    def test_three_different_values(self):
        self.assertSame(double_pick(ONLY_LABELS, ("x", "x"), ("y", "y"), ("z", "z")), ("z", "x"))

    def test_great_counters(self):
        self.assertSame(double_pick(ONLY_COUNTERS, (SIXTY, 0), (-SIXTY, 1), (SIXTY, 2)), (-SIXTY, 1))

    def test_by_name(self):
        self.assertSame(double_pick(three=("red", "shut", 0), two=BLUE, one=RED, schema=example_schema()),
                        ("red", "shut", 14))


class WrongVersions(Case):
    def test_each_wrong_value_at_each_place(self):
        schema = example_schema()
        for version in wrong_versions():
            for function in THREE_AT_A_TIME:
                with self.subTest(version=version, function=function):
                    for versions in [(version, BLUE, RED), (RED, version, BLUE), (RED, BLUE, version)]:
                        self.assertRaisesWith(InvalidVersion, {"version": version}, function, schema, *versions)

    def test_the_first_wrong_value_decides(self):
        schema = example_schema()
        wrong = ["red", ("red", "open", True), {"color": "red"}]
        for function in THREE_AT_A_TIME + [pick_many]:
            for one, two, three in itertools.permutations(wrong):
                self.assertRaisesWith(InvalidVersion, {"version": one}, function, schema, one, two, three)
                self.assertRaisesWith(InvalidVersion, {"version": two}, function, schema, RED, two, three)

    def test_versions_of_another_schema(self):
        for function in THREE_AT_A_TIME + [pick_many]:
            self.assertRaisesWith(InvalidVersion, {"version": RED}, function, MIXED, RED, RED, RED)
            self.assertRaisesWith(InvalidVersion, {"version": RED[:2] + (True,)}, function, example_schema(), RED,
                                  RED, RED[:2] + (True,))

    def test_unusual_values(self):
        for function in THREE_AT_A_TIME + [pick_many]:
            for version in (endless_list(), deep_list(), ("red", "open", deep_list()), EqualToAll()):
                with self.assertRaises(InvalidVersion):
                    function(example_schema(), RED, version, BLUE)

    def test_later_changes_do_not_change_the_error(self):
        for function in THREE_AT_A_TIME + [pick_many]:
            wrong = ["red", "open", [10]]
            error = self.assertRaisesWith(InvalidVersion, {"version": wrong}, function, example_schema(), wrong, RED,
                                          RED)
            wrong[2].append(11)
            self.assertSame(error.version, ["red", "open", [10]])


class Repetition(Case):
    def test_a_repeated_call_returns_the_same(self):
        schema = example_schema()
        for function in THREE_AT_A_TIME + [pick_many]:
            first = function(schema, RED, BLUE, ("gray", "held", 13))
            self.assertRaisesWith(InvalidVersion, {"version": 1}, function, schema, RED, BLUE, 1)
            self.assertSame(function(schema, RED, BLUE, ("gray", "held", 13)), first)
            self.assertSame(schema.fields(), FIELDS)


if __name__ == "__main__":
    unittest.main()

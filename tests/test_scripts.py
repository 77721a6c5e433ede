import random
import unittest

from mergereach.errors import InvalidScript, InvalidVersions
from mergereach.schemas import Schema
from mergereach.scripts import result_of, run_script
from tests.support import (BLUE, FIELDS, LARGE, NO_LISTS, NO_NUMBERS, NO_TUPLES, ONLY_COUNTERS, ONLY_LABELS, RED,
                           SIXTY, Case, deep_list, defined_pick, endless_list, example_schema, random_schema,
                           random_version, wrong_versions)

KNOWN = [RED, BLUE]
GOOD = [(0, 1, 0), (2, 2, 1)]
# Tuples that are too short, too long, or contain something other than integers.
WRONG_TUPLES = [(), (0,), (0, 1), (0, 1, 0, 1), ((0, 1, 0),), (0, 1, (0,)), ("0", "1", "0"), ("a", "b", "c")]


def defined_results(schema, versions, steps):
    line = list(versions)
    for ours, base, theirs in steps:
        line.append(defined_pick(schema, line[ours], line[base], line[theirs]))
    return line[len(versions):]


def random_steps(source, known, count):
    return [tuple(source.randrange(known + index) for _ in range(3)) for index in range(count)]


def wrong_steps():
    """Values that are no steps for two known versions, not even as the third step."""
    wrong = NO_TUPLES + WRONG_TUPLES + [[0, 1, 0], list(GOOD[0]), {0: 1}, "010"]
    for number in NO_NUMBERS + [-1, -2, 4, 5, 400, SIXTY, -SIXTY]:
        wrong += [(number, 0, 1), (0, number, 1), (1, 0, number)]
    return wrong


class Results(Case):
    def check(self, schema, versions, steps):
        wanted = defined_results(schema, versions, steps)
        self.assertSame(run_script(schema, versions, steps), wanted)
        self.assertSame(result_of(schema, versions, steps), wanted[-1])

    def test_examples_of_the_document(self):
        schema = example_schema()
        self.assertSame(run_script(schema, KNOWN, [(0, 1, 0), (2, 2, 1)]), [("red", "open", 6), ("blue", "shut", 14)])
        self.assertRaisesWith(InvalidScript, {"index": 0}, run_script, schema, KNOWN, [(0, 1, 2)])
        self.assertSame(result_of(schema, KNOWN, [(0, 1, 0), (2, 2, 1)]), ("blue", "shut", 14))

    def test_one_step(self):
        schema = example_schema()
        self.assertSame(run_script(schema, KNOWN, [(0, 0, 0)]), [RED])
        self.assertSame(result_of(schema, KNOWN, [(0, 0, 0)]), RED)
        self.assertSame(run_script(schema, KNOWN, [(1, 1, 1)]), [BLUE])
        self.assertSame(run_script(schema, [RED], [(0, 0, 0)]), [RED])

    def test_ours_base_and_theirs_have_their_places(self):
        schema = example_schema()
        three = [RED, BLUE, ("gray", "held", 13)]
        self.assertSame(run_script(schema, three, [(0, 1, 2)]), [("red", "held", 9)])
        self.assertSame(run_script(schema, three, [(2, 1, 0)]), [("gray", "open", 9)])
        self.assertSame(run_script(schema, three, [(1, 2, 0)]), [("blue", "open", 11)])

    def test_late_results(self):
        steps = [(0, 1, 0), (2, 1, 0), (3, 1, 0), (4, 3, 2), (0, 5, 4), (6, 2, 6)]
        self.check(example_schema(), KNOWN, steps)
        counters = Schema([("n", "counter")])
        self.assertSame(run_script(counters, [(0,), (1,)], [(1, 0, 1), (2, 0, 2), (3, 0, 3), (4, 2, 1)]),
                        [(2,), (4,), (8,), (7,)])

    def test_the_results_of_all_steps_in_sequence(self):
        schema = Schema([("n", "counter")])
        self.assertSame(run_script(schema, [(0,), (1,)], [(1, 1, 1), (0, 0, 0), (0, 1, 0)]), [(1,), (0,), (-1,)])
        self.assertSame(result_of(schema, [(0,), (1,)], [(1, 1, 1), (0, 0, 0), (0, 1, 0)]), (-1,))

    def test_the_last_version_that_exists_at_each_step(self):
        schema = Schema([("n", "counter")])
        steps = [(1 + index,) * 3 for index in range(50)]
        self.assertSame(run_script(schema, [(0,), (7,)], steps), [(7,)] * 50)
        for index in range(50):
            beyond = steps[:index] + [(0, 2 + index, 0)] + steps[index + 1:]
            self.assertRaisesWith(InvalidScript, {"index": index}, run_script, schema, [(0,), (7,)], beyond)

    def test_four_hundred_steps(self):
        source = random.Random(1)
        steps = random_steps(source, 2, 400)
        self.check(example_schema(), KNOWN, steps)
        self.assertEqual(len(run_script(example_schema(), KNOWN, steps)), 400)

    def test_results_beyond_sixty_digits(self):
        schema = Schema([("n", "counter")])
        steps = [(1 + index, 0, 1 + index) for index in range(400)]
        found = run_script(schema, [(0,), (1,)], steps)
        self.assertSame(found, [(2 ** (index + 1),) for index in range(400)])
        self.assertSame(run_script(schema, [found[-1], (-SIXTY,)], [(0, 1, 0), (2, 2, 2)]),
                        [(2 ** 401 + SIXTY,)] * 2)
        self.assertSame(result_of(schema, found[-40:], [(39, 0, 39)]), (2 ** 401 - 2 ** 361,))

    def test_random_scripts(self):
        source = random.Random(2)
        for _ in range(200):
            schema = random_schema(source)
            versions = [random_version(source, schema) for _ in range(source.randint(1, 6))]
            self.check(schema, versions, random_steps(source, len(versions), source.randint(1, 12)))

    def test_the_largest_schema(self):
        source = random.Random(3)
        versions = [random_version(source, LARGE) for _ in range(5)]
        self.check(LARGE, versions, random_steps(source, 5, 30))

    def test_one_version_and_forty_versions(self):
        source = random.Random(4)
        self.check(ONLY_COUNTERS, [(3, -4)], random_steps(source, 1, 20))
        self.check(ONLY_COUNTERS, [(at, -at * at) for at in range(40)], [(39, 0, 1), (40, 38, 39), (41, 40, 0)])
        self.assertRaisesWith(InvalidScript, {"index": 0}, run_script, ONLY_COUNTERS, [(at, at) for at in range(40)],
                              [(0, 40, 0)])

    def test_repeated_versions_have_their_own_numbers(self):
        schema = example_schema()
        self.assertSame(run_script(schema, [RED, RED, BLUE, RED], [(2, 2, 2), (4, 4, 4), (3, 1, 0)]),
                        [BLUE, BLUE, RED])
        self.assertRaisesWith(InvalidScript, {"index": 0}, run_script, schema, [RED, RED], [(2, 0, 0)])

    def test_lists_and_tuples(self):
        schema = example_schema()
        wanted = [("red", "open", 6), ("blue", "shut", 14)]
        self.assertSame(run_script(schema, tuple(KNOWN), tuple(GOOD)), wanted)
        self.assertSame(run_script(schema, tuple(KNOWN), GOOD), wanted)
        self.assertSame(result_of(schema, KNOWN, tuple(GOOD)), wanted[1])

    def test_by_name(self):
        schema = example_schema()
        self.assertSame(run_script(schema=schema, versions=KNOWN, steps=[(0, 1, 0)]), [("red", "open", 6)])
        self.assertSame(run_script(steps=[(0, 1, 0)], versions=KNOWN, schema=schema), [("red", "open", 6)])
        self.assertSame(result_of(schema=schema, versions=KNOWN, steps=GOOD), BLUE)
        self.assertSame(result_of(schema, steps=GOOD, versions=KNOWN), BLUE)


class WrongVersions(Case):
    def refused(self, versions, index, steps=tuple(GOOD)):
        for function in (run_script, result_of):
            self.assertRaisesWith(InvalidVersions, {"index": index}, function, example_schema(), versions, steps)

    def test_values_that_are_no_known_versions(self):
        for versions in NO_LISTS + [[], (), [RED] * 41, {0: RED}]:
            with self.subTest(versions=versions):
                self.refused(versions, -1)
        for version in wrong_versions():
            with self.subTest(version=version):
                self.refused([RED, version, None], 1)

    def test_a_ninth_value(self):
        versions = [("red", "x" * at, 0) for at in range(1, 9)]
        self.assertSame(result_of(example_schema(), versions, [(7, 7, 7)]), versions[7])
        self.refused(versions + [RED], 8)

    def test_wrong_versions_come_before_wrong_scripts(self):
        for steps in (None, [], [None], [(0, 0, 9)]):
            self.refused(None, -1, steps)
            self.refused([RED, "blue"], 1, steps)


class WrongScripts(Case):
    def refused(self, steps, index):
        for function in (run_script, result_of):
            self.assertRaisesWith(InvalidScript, {"index": index}, function, example_schema(), KNOWN, steps)

    def test_values_that_are_no_lists_with_an_item(self):
        for steps in NO_LISTS + [[], (), {0: (0, 0, 0)}, {(0, 0, 0): 0}, {(0, 0, 0)}, example_schema()]:
            with self.subTest(steps=steps):
                self.refused(steps, -1)

    def test_a_step_alone_is_a_list_of_no_steps(self):
        self.refused((0, 0, 0), 0)

    def test_items_that_are_no_steps(self):
        for step in wrong_steps():
            with self.subTest(step=step):
                self.refused([step], 0)
                self.refused([(0, 1, 0), (2, 2, 1), step, None], 2)
                self.refused([step, None, (9, 9, 9)], 0)

    def test_bools_are_no_integers(self):
        for truth in (True, False):
            for step in [(truth, 0, 0), (0, truth, 0), (0, 0, truth)]:
                self.refused([step], 0)
                self.refused([(0, 1, 0), step], 1)

    def test_lists_in_the_place_of_tuples(self):
        self.refused([[0, 1, 0]], 0)
        self.refused([(0, 1, 0), [2, 2, 1]], 1)

    def test_versions_that_do_not_exist_yet(self):
        for place in range(3):
            for index in range(4):
                for number in (2 + index, 3 + index, -1, -2, -3 - index):
                    steps = [(0, 0, 0)] * 6
                    steps[index] = tuple(number if at == place else 1 for at in range(3))
                    with self.subTest(steps=steps):
                        self.refused(steps, index)

    def test_unusual_values(self):
        self.refused(endless_list(), 0)
        self.refused([(0, 0, 0), deep_list()], 1)
        self.refused([(0, 0, deep_list())], 0)


class NothingChanges(Case):
    def test_arguments_and_results(self):
        schema = example_schema()
        versions, steps = list(KNOWN), list(GOOD)
        found = run_script(schema, versions, steps)
        self.assertSame([versions, steps, schema.fields()], [KNOWN, GOOD, FIELDS])
        versions.clear()
        steps.clear()
        self.assertSame(found, [("red", "open", 6), BLUE])
        found.clear()
        self.assertSame(run_script(schema, KNOWN, GOOD), [("red", "open", 6), BLUE])

    def test_arguments_of_a_call_that_fails(self):
        versions, steps = list(KNOWN), [(0, 1, 0), (2, 2, 7)]
        for function in (run_script, result_of):
            self.assertRaisesWith(InvalidScript, {"index": 1}, function, example_schema(), versions, steps)
            self.assertSame([versions, steps], [KNOWN, [(0, 1, 0), (2, 2, 7)]])

    def test_labels_alone(self):
        self.assertSame(run_script(ONLY_LABELS, [("x", "x"), ("y", "y"), ("z", "z")], [(0, 1, 2), (2, 1, 0)]),
                        [("x", "z"), ("z", "x")])


if __name__ == "__main__":
    unittest.main()

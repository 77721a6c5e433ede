import inspect
import itertools
import math
import random
import unittest

from mergereach.cosets import Coset
from mergereach.errors import InvalidVersion, InvalidVersions, OutOfReach
from mergereach.links import blocks_of, field_tuples
from mergereach.reach import Reach, reduced_versions
from mergereach.refusals import refusal_of
from mergereach.schemas import Schema, labels_of, vector_of, version_of
from mergereach.scripts import result_of, run_script
from tests.support import (BLUE, FIELDS, LARGE, MIXED, NO_LISTS, ONLY_COUNTERS, ONLY_LABELS, RED, SIXTY, Case, EqualToAll,
                           Thing, deep_list, defined_pick, endless_list, example_schema, joined, produced, random_cases,
                           random_schema, random_version, small_cases, some_in_reach, wrong_versions)

KNOWN = [RED, BLUE]
THREE = KNOWN + [("gray", "held", 10)]
# Labels in eight colors, so that no two of twelve fields are linked.
COLORS = ["red", "blue", "gray", "black", "white", "green", "pink", "brown"]


def wide_versions(source, count, great=9):
    """Versions of the largest schema with eight values in each label field."""
    rows = [[source.choice(COLORS) for _ in range(12)] for _ in range(count)]
    return [tuple(row) + tuple(source.randint(-great, great) for _ in range(4)) for row in rows]


def random_known(source, schema, most=5):
    return [random_version(source, schema) for _ in range(source.randint(1, most))]


def produced_residues(schema, known, modulus):
    """All versions that picks ever produce, with their counters modulo a number."""
    def rest(version):
        return tuple(value % modulus if isinstance(value, int) else value for value in version)

    found = {rest(version) for version in known}
    newest = found
    while newest:
        triples = (three for three in itertools.product(found, repeat=3) if not newest.isdisjoint(three))
        newest = {rest(defined_pick(schema, *three)) for three in triples} - found
        found = found | newest
    return found


class Construction(Case):
    def test_values_that_are_no_known_versions(self):
        schema = example_schema()
        for function in (Reach, reduced_versions):
            for versions in NO_LISTS + [[], (), [RED] * 41, (RED,) * 41, {0: RED}, schema, RED[0]]:
                with self.subTest(versions=versions):
                    self.assertRaisesWith(InvalidVersions, {"index": -1}, function, schema, versions)

    def test_items_that_are_no_versions(self):
        schema = example_schema()
        for function in (Reach, reduced_versions):
            for version in wrong_versions() + [deep_list(), endless_list()]:
                self.assertRaisesWith(InvalidVersions, {"index": 2}, function, schema, [RED, BLUE, version, None])
                self.assertRaisesWith(InvalidVersions, {"index": 0}, function, schema, (version,))

    def test_a_ninth_value(self):
        versions = [("x" * (at % 8 + 1), "open", 0) for at in range(40)]
        for function in (Reach, reduced_versions):
            function(example_schema(), versions)
            self.assertRaisesWith(InvalidVersions, {"index": 8}, function, example_schema(),
                                  versions[:8] + [("y", "open", 0), None])
            self.assertRaisesWith(InvalidVersions, {"index": 3}, function, example_schema(),
                                  versions[:3] + [None] + versions[3:8] + [("y", "open", 0)])

    def test_by_name_and_with_tuples(self):
        self.assertEqual(Reach(versions=tuple(KNOWN), schema=example_schema()), Reach(example_schema(), KNOWN))
        self.assertSame(reduced_versions(versions=tuple(KNOWN), schema=example_schema()), KNOWN)

    def test_no_argument_changes_and_later_changes_have_no_effect(self):
        schema, versions = example_schema(), list(THREE)
        reach = Reach(schema, versions)
        reduced = reduced_versions(schema, versions)
        self.assertSame([versions, schema.fields()], [THREE, FIELDS])
        versions.clear()
        versions.append(("pink", "lost", 7))
        self.assertSame(reach.versions(), THREE)
        self.assertIs(reach.contains(("pink", "lost", 7)), False)
        self.assertIs(reach.contains(("red", "shut", 14)), True)
        self.assertEqual(reach, Reach(schema, THREE))
        self.assertSame(reduced, THREE)


class Parts(Case):
    def test_example_of_the_document(self):
        reach = Reach(example_schema(), KNOWN)
        self.assertSame([reach.versions(), reach.blocks(), reach.coset().basis()],
                        [[("red", "open", 10), ("blue", "shut", 14)], [("color", "state")], [(4,)]])

    def test_the_schema(self):
        reach = Reach(example_schema(), KNOWN)
        self.assertIsInstance(reach.schema(), Schema)
        self.assertEqual(reach.schema(), example_schema())
        self.assertEqual(Reach(ONLY_LABELS, [("x", "y")]).schema(), ONLY_LABELS)

    def test_the_versions_as_given(self):
        versions = [BLUE, RED, BLUE, RED[:2] + (-4,), RED]
        self.assertSame(Reach(example_schema(), versions).versions(), versions)
        self.assertSame(Reach(example_schema(), tuple(versions)).versions(), versions)

    def test_blocks_and_coset(self):
        source = random.Random(11)
        for _ in range(60):
            schema = random_schema(source)
            known = random_known(source, schema)
            reach = Reach(schema, known)
            self.assertSame(reach.blocks(), blocks_of(schema, known))
            self.assertIsInstance(reach.coset(), Coset)
            self.assertSame(reach.coset().vectors(), [vector_of(schema, version) for version in known])

    def test_no_labels_and_no_counters(self):
        reach = Reach(ONLY_COUNTERS, [(1, 2), (3, 4)])
        self.assertSame([reach.blocks(), reach.coset().basis()], [[], [(2, 2)]])
        reach = Reach(ONLY_LABELS, [("x", "y"), ("y", "x")])
        self.assertSame([reach.blocks(), reach.coset().basis(), reach.coset().width()], [[("a", "b")], [], 0])
        self.assertSame(reach.coset().vectors(), [(), ()])

    def test_returned_lists_belong_to_the_caller(self):
        reach = Reach(example_schema(), THREE)
        for method in (reach.versions, reach.blocks, lambda: reach.script_to(("red", "held", 2)),
                       lambda: reach.coset().vectors(), lambda: reach.coset().basis(), lambda: reach.schema().fields()):
            wanted = list(method())
            found = method()
            found.append(None)
            found.reverse()
            self.assertSame(method(), wanted)
        self.assertEqual(reach, Reach(example_schema(), THREE))


class Equality(Case):
    def test_examples_of_the_document(self):
        schema = example_schema()
        reach = Reach(schema, KNOWN)
        self.assertSame([reach == Reach(schema, KNOWN + [("blue", "shut", 18)]), reach == Reach(schema, KNOWN[:1])],
                        [True, False])

    def test_other_things(self):
        reach = Reach(example_schema(), KNOWN)
        for thing in [None, True, 0, "", KNOWN, tuple(KNOWN), example_schema(), reach.coset(), {}, Thing(), Reach]:
            self.assertIs(reach == thing, False)
            self.assertIs(reach != thing, True)

    def test_schemas_that_differ(self):
        known = [("x", "y"), ("y", "x")]
        for fields in ([("a", "theirs"), ("b", "theirs")], [("a", "mine"), ("c", "theirs")]):
            self.assertIs(Reach(ONLY_LABELS, known) == Reach(Schema(fields), known), False)
        self.assertIs(Reach(ONLY_LABELS, known) == Reach(Schema([("a", "mine"), ("b", "theirs")]), known), True)

    def test_sets_of_labels(self):
        # All lists of up to three versions: reaches are equal exactly if picks produce the same versions.
        for policies in itertools.product(("mine", "theirs"), repeat=2):
            cases = [(schema, known) for schema, known in small_cases()
                     if [kind for _, kind in schema.fields()] == list(policies)]
            found = [(Reach(schema, known), frozenset(produced(schema, known))) for schema, known in cases]
            for (one, left), (other, right) in itertools.combinations(found, 2):
                self.assertIs(one == other, left == right)
                self.assertIs(one != other, left != right)

    def test_cosets(self):
        schema = example_schema()
        for numbers, others in itertools.product([(0,), (4,), (0, 2), (1, 3), (0, 4), (4, 8, 2), (3, 1, 1)], repeat=2):
            same = Coset([(number,) for number in numbers]) == Coset([(number,) for number in others])
            found = [Reach(schema, [("red", "open", number) for number in row]) for row in (numbers, others)]
            self.assertIs(found[0] == found[1], same)

    def test_only_the_set_counts(self):
        source = random.Random(12)
        for _ in range(60):
            schema = random_schema(source, 5, 2)
            known = random_known(source, schema, 6)
            reach = Reach(schema, known)
            mixed = known + known[:2]
            source.shuffle(mixed)
            self.assertEqual(Reach(schema, mixed), reach)
            for version in some_in_reach(source, reach, 3):
                self.assertEqual(Reach(schema, known + [version]), reach)
                self.assertEqual(Reach(schema, [version] + known), reach)

    def test_a_version_that_is_not_in_reach_makes_a_difference(self):
        source = random.Random(13)
        count = 0
        for _ in range(100):
            schema = random_schema(source, 4, 2)
            known = random_known(source, schema)
            version = random_version(source, schema)
            inside = Reach(schema, known).contains(version)
            count += not inside
            self.assertIs(Reach(schema, known + [version]) == Reach(schema, known), inside)
        self.assertGreater(count, 20)


class Contents(Case):
    def test_examples_of_the_document(self):
        reach = Reach(example_schema(), KNOWN)
        self.assertSame([reach.contains(("red", "open", 2)), reach.contains(("red", "shut", 10)),
                         reach.contains(("red", "open", 11))], [True, False, False])

    def test_all_picks_of_all_picks_without_counters(self):
        for schema, known in list(small_cases()) + list(random_cases(14, 80, 3)):
            reach = Reach(schema, known)
            wanted = produced(schema, known)
            for version in itertools.product("xyzw", repeat=len(schema)):
                self.assertIs(reach.contains(version), version in wanted)

    def test_all_picks_of_all_picks_with_a_counter(self):
        # Differences of at most 4 have steps that divide 12, so the residues decide.
        source = random.Random(15)
        for kinds in (("mine",), ("mine", "theirs"), ("theirs", "theirs"), ()):
            schema = Schema([("n", "counter")] + [("ab"[at], kind) for at, kind in enumerate(kinds)])
            for _ in range(3):
                known = [(source.randint(0, 4),) + tuple(source.choice("xy") for _ in kinds) for _ in range(3)]
                reach = Reach(schema, known)
                residues = produced_residues(schema, known, 12)
                step = math.gcd(*[version[0] - known[0][0] for version in known])
                for number in range(-14, 15):
                    for labels in itertools.product("xyz", repeat=len(kinds)):
                        inside = (number % 12,) + labels in residues
                        if step == 0:
                            inside = inside and number == known[0][0]
                        self.assertIs(reach.contains((number,) + labels), inside)

    def test_all_picks_of_all_picks_with_two_counters(self):
        # The differences combine to (4, 0) and (0, 4), so the residues modulo 4 decide.
        schema = Schema([("n", "counter"), ("a", "mine"), ("m", "counter")])
        known = [(0, "x", 0), (2, "y", 0), (2, "x", 4), (4, "y", 2)]
        residues = produced_residues(schema, known, 4)
        reach = Reach(schema, known)
        for number, label, other in itertools.product(range(-5, 6), "xyz", range(-5, 6)):
            self.assertIs(reach.contains((number, label, other)), (number % 4, label, other % 4) in residues)

    def test_results_of_scripts_are_in_reach(self):
        source = random.Random(16)
        for _ in range(60):
            schema = random_schema(source)
            known = random_known(source, schema)
            reach = Reach(schema, known)
            steps = [tuple(source.randrange(len(known) + at) for _ in range(3)) for at in range(25)]
            for version in run_script(schema, known, steps):
                self.assertIs(reach.contains(version), True)

    def test_exact_reach_by_blocks_and_coset(self):
        source = random.Random(17)
        for _ in range(120):
            schema = random_schema(source)
            known = random_known(source, schema)
            reach = Reach(schema, known)
            coset = Coset([vector_of(schema, version) for version in known])
            for version in [random_version(source, schema), *some_in_reach(source, reach, 2)]:
                rows = dict(zip(schema.names(), version))
                fits = all(tuple(rows[name] for name in block) in field_tuples(schema, known, block)
                           for block in blocks_of(schema, known))
                self.assertIs(reach.contains(version), fits and coset.contains(vector_of(schema, version)))

    def test_labels_and_counters_fall_apart(self):
        source = random.Random(18)
        for _ in range(60):
            schema = random_schema(source)
            reach = Reach(schema, random_known(source, schema))
            one, other = some_in_reach(source, reach, 2)
            self.assertIs(reach.contains(joined(schema, labels_of(schema, one), vector_of(schema, other))), True)

    def test_one_known_version(self):
        for schema in (example_schema(), ONLY_LABELS, ONLY_COUNTERS, MIXED, LARGE):
            source = random.Random(19)
            version = random_version(source, schema)
            for known in ([version], [version] * 40):
                reach = Reach(schema, known)
                self.assertIs(reach.contains(version), True)
                self.assertEqual(reach.label_count(), 1)
                for place, value in enumerate(version):
                    other = value + 1 if isinstance(value, int) else "pink"
                    self.assertIs(reach.contains(version[:place] + (other,) + version[place + 1:]), False)

    def test_forty_known_versions(self):
        known = [(COLORS[at % 8], COLORS[at // 8], 3 * at) for at in range(40)]
        reach = Reach(example_schema(), known)
        for color, state in itertools.product(COLORS, COLORS):
            self.assertIs(reach.contains((color, state, -9)), state in COLORS[:5])
            self.assertIs(reach.contains((color, state, -8)), False)

    def test_great_counters(self):
        reach = Reach(example_schema(), [("red", "open", SIXTY), ("red", "open", -SIXTY)])
        self.assertIs(reach.contains(("red", "open", SIXTY + 2 * SIXTY * SIXTY)), True)
        self.assertIs(reach.contains(("red", "open", SIXTY * SIXTY)), True)
        self.assertIs(reach.contains(("red", "open", SIXTY * SIXTY + 1)), False)
        self.assertIs(reach.contains(("red", "open", 0)), False)

    def test_values_that_are_no_versions(self):
        reach = Reach(example_schema(), KNOWN)
        for method in (reach.contains, reach.script_to):
            for version in wrong_versions():
                self.assertRaisesWith(InvalidVersion, {"version": version}, method, version)
            for version in (deep_list(), endless_list()):
                self.assertRaises(InvalidVersion, method, version)

    def test_a_bool_is_no_counter(self):
        reach = Reach(example_schema(), [("red", "open", 0), ("red", "open", 1)])
        self.assertIs(reach.contains(("red", "open", 1)), True)
        for value in (True, False):
            self.assertRaisesWith(InvalidVersion, {"version": ("red", "open", value)}, reach.contains,
                                  ("red", "open", value))

    def test_by_name_and_repeated(self):
        reach = Reach(example_schema(), KNOWN)
        for _ in range(3):
            self.assertIs(reach.contains(version=("red", "open", 2)), True)
            self.assertIs(reach.contains(version=("red", "shut", 2)), False)


class Labels(Case):
    def test_examples_of_the_document(self):
        schema = example_schema()
        reach = Reach(schema, KNOWN)
        self.assertSame([reach.label_count(), Reach(schema, KNOWN + [("gray", "held", 10)]).label_count()], [2, 9])
        self.assertSame(list(reach.each_labels()), [("blue", "shut"), ("red", "open")])

    def test_against_all_picks(self):
        for schema, known in list(small_cases()) + list(random_cases(20, 80, 4)):
            reach = Reach(schema, known)
            found = list(reach.each_labels())
            self.assertSame(found, sorted(produced(schema, known)))
            self.assertSame(reach.label_count(), len(found))

    def test_blocks_that_interlock(self):
        schema = Schema([("a", "mine"), ("b", "mine"), ("n", "counter"), ("c", "mine"), ("d", "mine")])
        known = [(x, y, 0, {"p": "z", "q": "a", "r": "m"}[x], {"s": "z", "t": "b"}[y])
                 for x, y in itertools.product("rqp", "ts")]
        reach = Reach(schema, known)
        self.assertSame(reach.blocks(), [("a", "c"), ("b", "d")])
        self.assertSame(list(reach.each_labels()), sorted(labels_of(schema, version) for version in known))
        self.assertSame(reach.label_count(), 6)

    def test_no_label_fields(self):
        reach = Reach(ONLY_COUNTERS, [(1, 2), (3, 5)])
        self.assertSame([reach.label_count(), list(reach.each_labels())], [1, [()]])

    def test_very_many_labels(self):
        known = [tuple(COLORS[(at * (place % 7 + 1) + place * at * at) % 8] for place in range(12)) + (0, 0, 0, 0)
                 for at in range(8)]
        known += wide_versions(random.Random(21), 32)
        reach = Reach(LARGE, known)
        self.assertEqual(len(reach.blocks()), 12)
        wanted = math.prod(len({version[place] for version in known}) for place in range(12))
        self.assertSame(reach.label_count(), wanted)
        self.assertGreater(wanted, 8 ** 11)
        first = list(itertools.islice(reach.each_labels(), 1000))
        self.assertEqual(first, sorted(set(first)))
        self.assertEqual(first[0], tuple(min(version[place] for version in known) for place in range(12)))
        self.assertTrue(all(reach.contains(labels + known[0][12:]) for labels in first))

    def test_a_generator(self):
        reach = Reach(example_schema(), THREE)
        self.assertTrue(inspect.isgenerator(reach.each_labels()))
        one, other = reach.each_labels(), reach.each_labels()
        wanted = sorted(itertools.product(["red", "blue", "gray"], ["open", "shut", "held"]))
        by_turns = []
        for _ in range(9):
            by_turns += [next(one), next(other)]
        self.assertSame(by_turns, [labels for labels in wanted for _ in range(2)])
        self.assertEqual([list(one), list(other)], [[], []])
        self.assertSame(list(reach.each_labels()), wanted)
        late = reach.each_labels()
        next(late)
        reach.contains(RED)
        self.assertSame(next(late), wanted[1])
        self.assertSame(list(reach.each_labels()), wanted)


class Within(Case):
    def test_examples_of_the_document(self):
        schema = example_schema()
        reach = Reach(schema, KNOWN)
        self.assertSame([Reach(schema, KNOWN[:1]).is_within(reach), reach.is_within(Reach(schema, KNOWN[:1]))],
                        [True, False])

    def test_against_all_picks(self):
        found = [(Reach(schema, known), produced(schema, known)) for schema, known in random_cases(22, 60, 3)]
        for (one, left), (other, right) in itertools.product(found, repeat=2):
            self.assertIs(one.is_within(other), one.schema() == other.schema() and left <= right)

    def test_from_both_sides(self):
        source = random.Random(23)
        for _ in range(60):
            schema = random_schema(source, 4, 2)
            known = random_known(source, schema, 4)
            reach, part = Reach(schema, known), Reach(schema, known[:source.randint(1, len(known))])
            self.assertIs(part.is_within(reach), True)
            self.assertIs(reach.is_within(part), reach == part)
            self.assertIs(reach.is_within(reach), True)

    def test_because_of_the_counters(self):
        schema = Schema([("n", "counter")])
        twos, fours = Reach(schema, [(0,), (2,)]), Reach(schema, [(2,), (6,)])
        self.assertSame([fours.is_within(twos), twos.is_within(fours)], [True, False])
        odd = Reach(schema, [(1,), (5,)])
        self.assertSame([odd.is_within(twos), twos.is_within(odd), odd.is_within(fours)], [False, False, False])

    def test_schemas_that_differ(self):
        other = Schema([("a", "mine"), ("b", "mine")])
        self.assertIs(Reach(ONLY_LABELS, [("x", "y")]).is_within(Reach(other, [("x", "y")])), False)
        self.assertIs(Reach(ONLY_LABELS, [("x", "y")]).is_within(Reach(ONLY_COUNTERS, [(1, 2)])), False)
        self.assertIs(Reach(ONLY_COUNTERS, [(1, 2)]).is_within(Reach(ONLY_LABELS, [("x", "y")])), False)

    def test_by_name(self):
        reach = Reach(example_schema(), KNOWN)
        self.assertIs(reach.is_within(other=Reach(example_schema(), KNOWN[:1])), False)
        self.assertIs(reach.is_within(other=Reach(example_schema(), THREE)), True)


class Scripts(Case):
    def check(self, reach, version):
        steps = reach.script_to(version)
        self.assertIsInstance(steps, list)
        self.assertSame(result_of(reach.schema(), reach.versions(), steps), version)
        return steps

    def test_example_of_the_document(self):
        steps = Reach(example_schema(), KNOWN).script_to(("blue", "shut", -6))
        self.assertSame(result_of(example_schema(), KNOWN, steps), ("blue", "shut", -6))

    def test_all_versions_without_counters(self):
        for schema, known in list(small_cases()) + list(random_cases(24, 100, 4)):
            reach = Reach(schema, known)
            for version in produced(schema, known):
                self.check(reach, version)

    def test_known_versions(self):
        for known in (KNOWN, THREE, [RED], [BLUE, BLUE, RED]):
            for version in known:
                self.check(Reach(example_schema(), known), version)

    def test_random_versions(self):
        source = random.Random(25)
        for _ in range(150):
            schema = random_schema(source)
            reach = Reach(schema, random_known(source, schema, 8))
            for version in some_in_reach(source, reach, 3):
                self.check(reach, version)

    def test_twelve_label_fields_and_four_counters(self):
        source = random.Random(26)
        for count, great in ((2, 9), (5, 9), (8, 10 ** 30), (40, 10 ** 12), (40, SIXTY)):
            known = wide_versions(source, count, great)
            reach = Reach(LARGE, known)
            for version in some_in_reach(source, reach, 3, great):
                self.check(reach, version)

    def test_counters_of_thirty_digits_and_more(self):
        schema = example_schema()
        reach = Reach(schema, THREE)
        for number in (10 ** 30, -10 ** 30, 10 ** 45 + 2, SIXTY - 1, -(SIXTY - 1)):
            number -= (number - 10) % 4
            for labels in (("red", "open"), ("blue", "held"), ("gray", "shut")):
                self.check(reach, labels + (number,))
        great = [("red", "open", SIXTY), ("blue", "shut", SIXTY - 7), ("gray", "held", -SIXTY)]
        for version in some_in_reach(random.Random(27), Reach(schema, great), 6, 10 ** 30):
            self.check(Reach(schema, great), version)

    def test_results_are_passed_in_again(self):
        schema = Schema([("n", "counter"), ("m", "counter")])
        known = [(SIXTY, 3), (5, -SIXTY)]
        steps = [(0, 1, 0)] + [(at, 1, at) for at in range(2, 12)]
        last = run_script(schema, known, steps)[-1]
        self.assertGreater(abs(last[0]), SIXTY * 1000)
        self.check(Reach(schema, known), last)
        again = Reach(schema, known + [last])
        self.assertEqual(again, Reach(schema, known))
        self.check(again, tuple(left + right - old for left, right, old in zip(last, last, known[0])))
        far = tuple(left + (left - right) * 10 ** 300 for left, right in zip(*known))
        self.check(again, far)

    def test_one_known_version(self):
        for known in ([RED], [RED] * 40):
            self.check(Reach(example_schema(), known), RED)
        self.check(Reach(LARGE, [("x",) * 12 + (1, 2, 3, 4)]), ("x",) * 12 + (1, 2, 3, 4))

    def test_no_labels_or_no_counters(self):
        self.check(Reach(ONLY_COUNTERS, [(1, 2), (4, 4), (0, 1)]), (17, 18))
        self.check(Reach(Schema([("n", "counter")]), [(6,), (10,), (15,)]), (-1000001,))
        self.check(Reach(ONLY_LABELS, [("x", "p"), ("y", "q"), ("z", "r")]), ("z", "p"))

    def test_forty_vectors(self):
        schema = Schema([("n", "counter"), ("m", "counter"), ("k", "counter"), ("j", "counter")])
        source = random.Random(28)
        known = [tuple(source.randint(-10 ** 20, 10 ** 20) for _ in range(4)) for _ in range(40)]
        reach = Reach(schema, known)
        for version in [(0, 0, 0, 0), (1, 0, 0, 0), (10 ** 25, -1, 7, 0)]:
            if reach.contains(version):
                self.check(reach, version)
            else:
                self.assertRaisesWith(OutOfReach, {"version": version}, reach.script_to, version)
        for version in some_in_reach(source, reach, 3, 10 ** 20):
            self.check(reach, version)

    def test_versions_that_are_not_in_reach(self):
        reach = Reach(example_schema(), KNOWN)
        for version in [("gray", "open", 10), ("red", "held", 10), ("red", "shut", 10), ("red", "open", 11),
                        ("gray", "held", 11), ("red", "open", SIXTY)]:
            self.assertRaisesWith(OutOfReach, {"version": version}, reach.script_to, version)
            self.assertIs(reach.contains(version), False)

    def test_script_or_refusal(self):
        source = random.Random(29)
        inside = 0
        for _ in range(200):
            schema = random_schema(source, 4, 2)
            reach = Reach(schema, random_known(source, schema, 4))
            version = random_version(source, schema)
            refusal = refusal_of(reach, version)
            if refusal is None:
                inside += 1
                self.check(reach, version)
            else:
                self.assertRaisesWith(OutOfReach, {"version": version}, reach.script_to, version)
        self.assertGreater(inside, 20)
        self.assertLess(inside, 180)

    def test_by_name_and_repeated(self):
        reach = Reach(example_schema(), THREE)
        first = reach.script_to(version=("red", "shut", 2))
        self.assertSame(reach.script_to(("red", "shut", 2)), first)
        first.clear()
        self.check(reach, ("red", "shut", 2))


class Reducing(Case):
    def by_steps(self, schema, versions):
        """Reducing in the words of the document."""
        left = list(dict.fromkeys(versions))
        for version in reversed(list(left)):
            others = [other for other in left if other != version]
            if others and Reach(schema, others).contains(version):
                left = others
        return left

    def test_example_of_the_document(self):
        self.assertSame(reduced_versions(example_schema(), KNOWN + [("blue", "shut", 18)]),
                        [("red", "open", 10), ("blue", "shut", 14)])

    def test_repetitions(self):
        self.assertSame(reduced_versions(example_schema(), [RED] * 40), [RED])
        self.assertSame(reduced_versions(example_schema(), [RED, RED, BLUE, RED, BLUE]), KNOWN)
        self.assertSame(reduced_versions(example_schema(), [BLUE, RED, BLUE]), [BLUE, RED])

    def test_from_the_last_to_the_first(self):
        schema = Schema([("n", "counter")])
        self.assertSame(reduced_versions(schema, [(0,), (1,), (2,), (3,)]), [(0,), (1,)])
        self.assertSame(reduced_versions(schema, [(3,), (1,), (2,), (0,)]), [(3,), (2,)])
        self.assertSame(reduced_versions(schema, [(0,), (6,), (10,), (15,)]), [(6,), (10,), (15,)])
        self.assertSame(reduced_versions(schema, [(0,), (6,), (10,), (15,), (1,)]), [(6,), (10,), (15,)])
        self.assertSame(reduced_versions(schema, [(0,), (1,), (6,), (10,), (15,)]), [(0,), (1,)])
        self.assertSame(reduced_versions(schema, [(1,), (1,)]), [(1,)])

    def test_step_by_step(self):
        source = random.Random(30)
        smaller = 0
        for _ in range(100):
            schema = random_schema(source, 3, 2)
            known = random_known(source, schema, 9) * source.randint(1, 2)
            found = reduced_versions(schema, known)
            self.assertSame(found, self.by_steps(schema, known))
            self.assertEqual(Reach(schema, found), Reach(schema, known))
            smaller += len(found) < len(set(known))
        self.assertGreater(smaller, 20)

    def test_without_counters_by_all_picks(self):
        for schema, known in list(random_cases(31, 40, 3)):
            left = list(dict.fromkeys(known))
            for version in left[::-1]:
                others = [other for other in left if other != version]
                if others and version in produced(schema, others):
                    left = others
            self.assertSame(reduced_versions(schema, known), left)

    def test_forty_versions(self):
        known = wide_versions(random.Random(32), 40)
        found = reduced_versions(LARGE, known)
        self.assertEqual(Reach(LARGE, found), Reach(LARGE, known))
        self.assertSame(found, self.by_steps(LARGE, known))
        self.assertSame(reduced_versions(LARGE, found), found)

    def test_a_new_list(self):
        found = reduced_versions(example_schema(), KNOWN)
        found.append(None)
        self.assertSame(reduced_versions(example_schema(), KNOWN), KNOWN)


class Guarantees(Case):
    def test_links_last(self):
        for schema, known in random_cases(34, 60, 5):
            reach = Reach(schema, known)
            for labels in reach.each_labels():
                for block in reach.blocks():
                    places = [schema.names().index(name) for name in block]
                    for one, other in itertools.combinations(places, 2):
                        self.assertIn((labels[one], labels[other]), [(row[one], row[other]) for row in known])

    def test_a_version_as_a_dict(self):
        schema = example_schema()
        self.assertIs(Reach(schema, KNOWN).contains(version_of(schema, {"color": "red", "state": "open", "stock": 6})),
                      True)

    def test_objects_share_no_state(self):
        schema = example_schema()
        one, other = Reach(schema, KNOWN), Reach(schema, THREE)
        self.assertIs(one.contains(("red", "shut", 10)), False)
        self.assertIs(other.contains(("red", "shut", 10)), True)
        one.versions().clear()
        self.assertSame([one.versions(), other.versions()], [KNOWN, THREE])

    def test_things_that_claim_to_be_equal(self):
        reach = Reach(example_schema(), KNOWN)
        self.assertRaises(InvalidVersion, reach.contains, EqualToAll())
        self.assertRaises(InvalidVersion, reach.contains, (EqualToAll(), "open", 10))


if __name__ == "__main__":
    unittest.main()

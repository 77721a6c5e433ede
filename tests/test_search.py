import inspect
import itertools
import random
import unittest

from mergereach.errors import (InvalidCount, InvalidLimit, InvalidRule, InvalidVersion, InvalidVersions, OutOfReach,
                               TooMany)
from mergereach.reach import Reach
from mergereach.schemas import Schema
from mergereach.search import all_in_reach, each_round, first_break, round_of, round_versions
from tests.support import (BLUE, LARGE, NO_LISTS, NO_NUMBERS, ONLY_COUNTERS, RED, SIXTY, Case, EqualToAll, Thing, deep_list,
                           defined_pick, endless_list, example_schema, label_schema, produced, random_cases, random_rule,
                           random_schema, random_version, satisfies_by_words, small_cases, wrong_versions)

LABELS = Schema([("color", "mine"), ("state", "theirs")])
KNOWN = [("red", "open"), ("blue", "shut"), ("gray", "held")]
RULE = ("labels", ("color", "state"), (("red", "open"), ("blue", "shut"), ("gray", "held")))
COUNTER = Schema([("n", "counter")])
BITS = [(0,), (1,)]
# It takes two picks to make z and p meet.
FIRST = [("x", "p"), ("y", "p"), ("z", "q")]
LATE = Schema([("a", "mine"), ("b", "mine"), ("n", "counter")])
LATE_RULE = ("labels", ("a", "b"), (("x", "p"), ("x", "q"), ("y", "p"), ("y", "q"), ("z", "q")))


def consume(schema, versions, **named):
    return list(each_round(schema, versions, **named))


def defined_rounds(schema, known, most):
    """The rounds in the words of the document, one by one, as long as they have at most so many versions."""
    found = [sorted(set(known))]
    while len(found[-1]) <= most:
        following = sorted({defined_pick(schema, *three) for three in itertools.product(found[-1], repeat=3)})
        if following == found[-1]:
            return found
        found.append(following)
    return found


def some_cases(seed, count):
    source = random.Random(seed)
    cases = list(random_cases(seed, count, 4))
    for _ in range(count):
        schema = random_schema(source, 2, 2)
        cases.append((schema, [random_version(source, schema) for _ in range(source.randint(1, 2))]))
    return cases


class Calls(Case):
    """Each function, with good arguments after the known versions, and the greatest limit that it takes."""

    calls = [(round_versions, [2], 60), (consume, [], 60), (round_of, [RED], 60),
             (first_break, [("labels", ("color",), ())], 60), (all_in_reach, [], 2000)]

    def test_values_that_are_no_known_versions(self):
        schema = example_schema()
        for function, others, _ in self.calls:
            for versions in NO_LISTS + [[], (), [RED] * 41, {0: RED}]:
                self.assertRaisesWith(InvalidVersions, {"index": -1}, function, schema, versions, *others, limit=1)
            for version in wrong_versions() + [deep_list(), endless_list()]:
                self.assertRaisesWith(InvalidVersions, {"index": 1}, function, schema, [RED, version, None], *others)
            ninth = [("x" * at, "open", 0) for at in range(1, 10)]
            self.assertRaisesWith(InvalidVersions, {"index": 8}, function, schema, ninth, *others)

    def test_values_that_are_no_limits(self):
        schema = example_schema()
        for function, others, most in self.calls:
            for limit in NO_NUMBERS + [0, -1, most + 1, SIXTY, -SIXTY]:
                self.assertRaisesWith(InvalidLimit, {"limit": limit}, function, schema, [RED], *others, limit=limit)
            for limit in (1, 2, most):
                function(schema, [RED], *others, limit=limit)

    def test_the_sequence_of_errors(self):
        schema = example_schema()
        for function, wrong in [(round_versions, [None]), (consume, []), (round_of, [None]), (first_break, [None]),
                                (all_in_reach, [])]:
            self.assertRaisesWith(InvalidVersions, {"index": -1}, function, schema, [], *wrong, limit=None)
            self.assertRaisesWith(InvalidVersions, {"index": 0}, function, schema, [None], *wrong, limit=None)
        self.assertRaisesWith(InvalidCount, {"count": None}, round_versions, schema, [RED], None, limit=None)
        self.assertRaisesWith(InvalidVersion, {"version": None}, round_of, schema, [RED], None, limit=None)
        self.assertRaisesWith(InvalidRule, {"rule": None}, first_break, schema, [RED], None, limit=None)
        self.assertRaisesWith(InvalidLimit, {"limit": None}, round_versions, schema, [RED, BLUE], 0, limit=None)
        self.assertRaisesWith(InvalidLimit, {"limit": None}, round_of, schema, [RED], BLUE, limit=None)
        self.assertRaisesWith(InvalidLimit, {"limit": None}, first_break, schema, [RED],
                              ("counters", (1,), 10, 0), limit=None)
        self.assertRaisesWith(InvalidLimit, {"limit": 0}, all_in_reach, schema, [RED, BLUE], limit=0)

    def test_limits_by_name_alone(self):
        for function, others, _ in self.calls:
            if function is not consume:
                self.assertRaises(TypeError, function, example_schema(), [RED], *others, 40)
        self.assertRaises(TypeError, each_round, example_schema(), [RED], 40)

    def test_limits_that_are_left_out(self):
        forty = [("x" * (at % 8 + 1), "y" * (at // 8 + 1)) for at in range(40)]
        self.assertEqual(len(round_versions(LABELS, forty, 5)), 40)
        self.assertRaisesWith(TooMany, {"limit": 40}, round_versions, COUNTER, BITS, 4)
        self.assertRaisesWith(TooMany, {"limit": 40}, consume, COUNTER, BITS)
        self.assertRaisesWith(TooMany, {"limit": 40}, round_of, COUNTER, BITS, (20,))
        self.assertRaisesWith(TooMany, {"limit": 40}, first_break, LATE, [one + (9 ** at,) for at, one in enumerate(FIRST)],
                              LATE_RULE)
        self.assertRaisesWith(TooMany, {"limit": 400}, all_in_reach, COUNTER, BITS)

    def test_no_argument_changes(self):
        for function, others, _ in self.calls:
            versions = [RED, RED]
            function(example_schema(), versions, *others)
            self.assertSame(versions, [RED, RED])

    def test_lists_and_tuples_and_repeated_calls(self):
        for function, others, _ in self.calls:
            wanted = function(example_schema(), [RED, RED], *others)
            self.assertSame(function(example_schema(), (RED,), *others), wanted)
            self.assertSame(function(example_schema(), [RED], *others), wanted)
            if isinstance(wanted, list):
                wanted.clear()
                self.assertNotEqual(function(example_schema(), [RED], *others), [])


class Rounds(Case):
    def test_examples_of_the_document(self):
        self.assertSame([round_versions(LABELS, KNOWN[:2], 5), len(round_versions(LABELS, KNOWN, 1)),
                         len(round_versions(LABELS, KNOWN, 2))], [[("blue", "shut"), ("red", "open")], 9, 9])
        self.assertSame(list(each_round(LABELS, KNOWN[:2])), [[("blue", "shut"), ("red", "open")]])

    def test_against_all_picks_one_by_one(self):
        several = 0
        for schema, known in some_cases(61, 50):
            rounds = defined_rounds(schema, known, 20)
            inside = [found for found in rounds if len(found) <= 20]
            several += len(inside) > 2
            yielded = []
            if len(inside) == len(rounds):
                yielded = list(each_round(schema, known, limit=20))
            else:
                generator = each_round(schema, known, limit=20)
                yielded = [next(generator) for _ in inside]
                self.assertRaisesWith(TooMany, {"limit": 20}, next, generator)
                self.assertEqual(list(generator), [])
            self.assertSame(yielded, inside)
            for count, found in enumerate(inside):
                self.assertSame(round_versions(schema, known, count, limit=20), found)
            for count in (len(inside), 20):
                if len(inside) == len(rounds):
                    self.assertSame(round_versions(schema, known, count, limit=20), inside[-1])
                else:
                    self.assertRaisesWith(TooMany, {"limit": 20}, round_versions, schema, known, count, limit=20)
        self.assertGreater(several, 5)

    def test_limits_around_the_number_of_versions(self):
        for schema, known in [(LABELS, KNOWN), (COUNTER, BITS), (COUNTER, [(0,), (1,), (5,)]), (LABELS, KNOWN[:2]),
                              (label_schema("mine", "theirs", "mine"), [("x", "x", "x"), ("y", "y", "z"), ("z", "z", "y")])]:
            rounds = defined_rounds(schema, known, 12)
            for count, found in enumerate(rounds):
                for limit in (len(found) - 1, len(found), len(found) + 1):
                    if not 1 <= limit <= 60:
                        continue
                    if limit < len(found):
                        self.assertRaisesWith(TooMany, {"limit": limit}, round_versions, schema, known, count, limit=limit)
                        self.assertRaisesWith(TooMany, {"limit": limit}, consume, schema, known, limit=limit)
                    else:
                        self.assertSame(round_versions(schema, known, count, limit=limit), found)

    def test_round_0(self):
        self.assertSame(round_versions(LABELS, KNOWN * 3, 0), sorted(KNOWN))
        self.assertSame(round_versions(LABELS, KNOWN, 0, limit=3), sorted(KNOWN))
        self.assertRaisesWith(TooMany, {"limit": 2}, round_versions, LABELS, KNOWN, 0, limit=2)
        self.assertSame(round_versions(LABELS, [KNOWN[0]] * 40, 0, limit=1), KNOWN[:1])
        self.assertRaisesWith(TooMany, {"limit": 2}, next, each_round(LABELS, KNOWN, limit=2))

    def test_an_earlier_round_has_too_many(self):
        self.assertRaisesWith(TooMany, {"limit": 2}, round_versions, LABELS, KNOWN, 7, limit=2)
        self.assertRaisesWith(TooMany, {"limit": 8}, round_versions, LABELS, KNOWN, 20, limit=8)
        self.assertSame(round_versions(LABELS, KNOWN, 0, limit=8), sorted(KNOWN))

    def test_a_counter(self):
        self.assertSame(round_versions(COUNTER, BITS, 1), [(at,) for at in range(-1, 3)])
        self.assertSame(round_versions(COUNTER, BITS, 2), [(at,) for at in range(-4, 6)])
        self.assertSame(round_versions(COUNTER, BITS, 3), [(at,) for at in range(-13, 15)])
        self.assertRaisesWith(TooMany, {"limit": 60}, round_versions, COUNTER, BITS, 4, limit=60)
        self.assertSame(round_versions(COUNTER, [(SIXTY,)], 20), [(SIXTY,)])

    def test_sixty_versions(self):
        # Four values by four values by three values are 48 versions.
        schema = label_schema("mine", "mine", "theirs")
        known = [("w", "w", "x"), ("x", "w", "y"), ("y", "w", "z"), ("z", "x", "x"), ("w", "y", "y"), ("w", "z", "z")]
        last = list(each_round(schema, known, limit=60))[-1]
        self.assertSame(last, all_in_reach(schema, known))
        self.assertEqual(len(last), 48)
        self.assertRaisesWith(TooMany, {"limit": 47}, consume, schema, known, limit=47)

    def test_the_largest_schema(self):
        known = [("x",) * 12 + (0, 0, 0, 0), ("y",) * 12 + (0, 0, 0, 0)]
        self.assertSame(round_versions(LARGE, known, 20), known)
        known[1] = ("y",) * 12 + (0, 0, 0, 1)
        self.assertEqual(len(round_versions(LARGE, known, 1)), 4)
        self.assertSame(round_versions(LARGE, known, 1), defined_rounds(LARGE, known, 2)[1])

    def test_values_that_are_no_counts(self):
        for count in NO_NUMBERS + [-1, 21, 400, SIXTY]:
            self.assertRaisesWith(InvalidCount, {"count": count}, round_versions, LABELS, KNOWN, count)
        for count in range(21):
            self.assertEqual(len(round_versions(LABELS, KNOWN, count)), 9 if count else 3)

    def test_by_name(self):
        self.assertSame(round_versions(count=1, versions=KNOWN[:2], schema=LABELS, limit=2), sorted(KNOWN[:2]))
        self.assertSame(list(each_round(versions=KNOWN[:2], schema=LABELS, limit=2)), [sorted(KNOWN[:2])])


class Generators(Case):
    def test_two_generators_by_turns(self):
        one, other = each_round(COUNTER, BITS), each_round(COUNTER, BITS)
        for count in range(3):
            self.assertSame(next(one), round_versions(COUNTER, BITS, count))
            self.assertSame(next(other), round_versions(COUNTER, BITS, count))
        self.assertTrue(inspect.isgenerator(one))
        third = each_round(COUNTER, [(0,), (3,)])
        self.assertSame([next(third), next(one), next(third)],
                        [[(0,), (3,)], [(at,) for at in range(-13, 15)], [(-3,), (0,), (3,), (6,)]])

    def test_errors_come_with_the_first_round(self):
        for versions, limit, error in [(None, 40, InvalidVersions), ([], 0, InvalidVersions), (KNOWN, 0, InvalidLimit),
                                       (KNOWN, True, InvalidLimit), (KNOWN, 61, InvalidLimit), (KNOWN, 2, TooMany)]:
            generator = each_round(LABELS, versions, limit=limit)
            self.assertRaises(error, next, generator)

    def test_too_many_comes_with_its_round(self):
        generator = each_round(COUNTER, BITS, limit=10)
        self.assertSame([len(next(generator)) for _ in range(3)], [2, 4, 10])
        self.assertRaisesWith(TooMany, {"limit": 10}, next, generator)

    def test_the_end(self):
        generator = each_round(LABELS, KNOWN, limit=9)
        self.assertSame([len(next(generator)), len(next(generator))], [3, 9])
        self.assertRaises(StopIteration, next, generator)

    def test_changes_between_rounds_have_no_effect(self):
        versions = list(BITS)
        generator = each_round(COUNTER, versions)
        first = next(generator)
        versions.append((1000,))
        first.clear()
        second = next(generator)
        self.assertSame(second, [(at,) for at in range(-1, 3)])
        second.append((77,))
        self.assertSame(next(generator), [(at,) for at in range(-4, 6)])

    def test_the_arguments_are_looked_at_with_the_first_round(self):
        versions = []
        generator = each_round(COUNTER, versions)
        versions.extend(BITS)
        self.assertSame(next(generator), BITS)


class RoundOf(Case):
    def test_examples_of_the_document(self):
        self.assertSame([round_of(LABELS, KNOWN, ("red", "open")), round_of(LABELS, KNOWN, ("red", "held"))], [0, 1])

    def test_against_the_rounds(self):
        for schema, known in some_cases(62, 40):
            rounds = defined_rounds(schema, known, 20)
            inside = [found for found in rounds if len(found) <= 20]
            numbers = {}
            for number, found in enumerate(inside):
                for version in found:
                    numbers.setdefault(version, number)
            for version, number in numbers.items():
                self.assertSame(round_of(schema, known, version, limit=20), number)
            if len(inside) < len(rounds):
                for version in set(rounds[-1]) - set(numbers):
                    self.assertRaisesWith(TooMany, {"limit": 20}, round_of, schema, known, version, limit=20)

    def test_versions_that_are_not_in_reach(self):
        self.assertRaisesWith(OutOfReach, {"version": ("pink", "open")}, round_of, LABELS, KNOWN, ("pink", "open"))
        self.assertRaisesWith(OutOfReach, {"version": ("red", "shut")}, round_of, LABELS, KNOWN[:2], ("red", "shut"))
        self.assertRaisesWith(OutOfReach, {"version": (1,)}, round_of, COUNTER, [(0,), (2,)], (1,))
        self.assertRaisesWith(OutOfReach, {"version": (1,)}, round_of, COUNTER, [(0,), (2,)], (1,), limit=1)

    def test_limits(self):
        self.assertSame(round_of(COUNTER, BITS, (5,), limit=10), 2)
        self.assertRaisesWith(TooMany, {"limit": 9}, round_of, COUNTER, BITS, (5,), limit=9)
        self.assertRaisesWith(TooMany, {"limit": 9}, round_of, COUNTER, BITS, (SIXTY,), limit=9)
        self.assertSame(round_of(COUNTER, BITS, (2,), limit=9), 1)
        self.assertRaisesWith(TooMany, {"limit": 1}, round_of, COUNTER, BITS, (0,), limit=1)
        self.assertSame(round_of(COUNTER, [(0,)] * 3, (0,), limit=1), 0)
        self.assertRaisesWith(TooMany, {"limit": 8}, round_of, LABELS, KNOWN, ("red", "held"), limit=8)

    def test_values_that_are_no_versions(self):
        for version in wrong_versions():
            self.assertRaisesWith(InvalidVersion, {"version": version}, round_of, example_schema(), [RED], version)
        for version in (deep_list(), endless_list(), Thing(), EqualToAll()):
            self.assertRaises(InvalidVersion, round_of, example_schema(), [RED], version)
        self.assertRaisesWith(InvalidVersion, {"version": (True,)}, round_of, COUNTER, BITS, (True,))

    def test_by_name(self):
        self.assertSame(round_of(version=("red", "held"), versions=KNOWN, schema=LABELS, limit=9), 1)


class FirstBreak(Case):
    def test_examples_of_the_document(self):
        self.assertSame([first_break(LABELS, KNOWN, RULE), first_break(LABELS, KNOWN[:2], RULE)], [1, None])

    def test_against_the_rounds(self):
        source = random.Random(63)
        answers = set()
        for at, (schema, known) in enumerate(some_cases(64, 80)):
            rounds = defined_rounds(schema, known, 20)
            inside = [found for found in rounds if len(found) <= 20]
            rule = random_rule(source, schema, known)
            if at % 2 and len(schema.label_names()) > 1:
                places = [schema.names().index(name) for name in schema.label_names()[:2]]
                rows = {tuple(version[place] for place in places) for version in known}
                rule = ("labels", tuple(schema.label_names()[:2]), tuple(rows))
            broken = [number for number, found in enumerate(inside)
                      if not all(satisfies_by_words(schema, version, rule) for version in found)]
            if broken:
                answers.add(broken[0])
                self.assertSame(first_break(schema, known, rule, limit=20), broken[0])
            elif len(inside) == len(rounds):
                answers.add(None)
                self.assertIs(first_break(schema, known, rule, limit=20), None)
        self.assertLessEqual({None, 0, 1}, answers)

    def test_two_picks(self):
        schema = label_schema("mine", "mine")
        self.assertEqual([len(found) for found in defined_rounds(schema, FIRST, 9)], [3, 5, 6])
        self.assertSame(first_break(schema, FIRST, LATE_RULE), 2)
        self.assertSame(first_break(schema, FIRST, LATE_RULE, limit=6), 2)
        self.assertRaisesWith(TooMany, {"limit": 5}, first_break, schema, FIRST, LATE_RULE, limit=5)

    def test_limits(self):
        rule = ("counters", (1,), 0, 0)
        self.assertSame(first_break(COUNTER, BITS, rule), 0)
        self.assertRaisesWith(TooMany, {"limit": 1}, first_break, COUNTER, BITS, rule, limit=1)
        self.assertSame(first_break(LABELS, KNOWN, RULE, limit=9), 1)
        self.assertRaisesWith(TooMany, {"limit": 8}, first_break, LABELS, KNOWN, RULE, limit=8)
        self.assertRaisesWith(TooMany, {"limit": 2}, first_break, LABELS, KNOWN, RULE, limit=2)

    def test_a_rule_that_is_kept_whatever_the_limit_is(self):
        self.assertIs(first_break(COUNTER, [(0,), (2,), (4,)], ("counters", (1,), 0, 2), limit=1), None)
        self.assertIs(first_break(LABELS, KNOWN[:2], RULE, limit=1), None)
        self.assertIs(first_break(COUNTER, [(at,) for at in range(40)], ("counters", (1,), 0, 1), limit=3), None)

    def test_a_break_behind_the_limit(self):
        # The known versions satisfy one of the two rules each, but labels and counters fall apart.
        schema = Schema([("a", "mine"), ("n", "counter")])
        rule = ("either", ("labels", ("a",), (("x",),)), ("counters", (1,), 1, 0))
        known = [("x", 0), ("y", 1)]
        rounds = defined_rounds(schema, known, 30)
        number = next(number for number, found in enumerate(rounds)
                      if not all(satisfies_by_words(schema, version, rule) for version in found))
        self.assertGreater(number, 0)
        self.assertSame(first_break(schema, known, rule, limit=len(rounds[number])), number)
        self.assertRaisesWith(TooMany, {"limit": len(rounds[number]) - 1}, first_break, schema, known, rule,
                              limit=len(rounds[number]) - 1)

    def test_values_that_are_no_rules(self):
        for rule in [None, True, "labels", list(RULE), ("labels", ("color",)), ("counters", (1,), 0, 0), {}, [], 7, (),
                     ("labels", ("size",), ()), ("counters", (), True, 0), ("counters", (), 0, -1)]:
            self.assertRaisesWith(InvalidRule, {"rule": rule}, first_break, LABELS, KNOWN, rule)
        for rule in (deep_list(), endless_list(), Thing(), EqualToAll()):
            self.assertRaises(InvalidRule, first_break, LABELS, KNOWN, rule)

    def test_by_name(self):
        self.assertSame(first_break(rule=RULE, versions=KNOWN, schema=LABELS, limit=9), 1)


class AllInReach(Case):
    def test_examples_of_the_document(self):
        self.assertSame([all_in_reach(LABELS, KNOWN[:2]), len(all_in_reach(LABELS, KNOWN))],
                        [[("blue", "shut"), ("red", "open")], 9])

    def test_against_all_picks(self):
        for schema, known in list(small_cases()) + list(random_cases(65, 80, 4)):
            self.assertSame(all_in_reach(schema, known), sorted(produced(schema, known)))

    def test_against_the_last_round(self):
        for schema, known in random_cases(66, 60, 3):
            self.assertSame(all_in_reach(schema, known), list(each_round(schema, known, limit=60))[-1])

    def test_counters_that_are_all_equal(self):
        schema = Schema([("n", "counter"), ("a", "mine"), ("m", "counter"), ("b", "theirs")])
        known = [(7, "x", -2, "p"), (7, "y", -2, "q"), (7, "z", -2, "r")]
        wanted = sorted((7, a, -2, b) for a in "xyz" for b in "pqr")
        self.assertSame(all_in_reach(schema, known), wanted)
        self.assertSame(list(each_round(schema, known))[-1], wanted)
        self.assertSame(all_in_reach(ONLY_COUNTERS, [(SIXTY, 1)] * 40), [(SIXTY, 1)])

    def test_infinitely_many(self):
        for limit in (1, 400, 2000):
            self.assertRaisesWith(TooMany, {"limit": limit}, all_in_reach, COUNTER, BITS, limit=limit)
        self.assertRaisesWith(TooMany, {"limit": 400}, all_in_reach, example_schema(), [RED, BLUE])

    def test_limits_around_the_number_of_versions(self):
        self.assertEqual(len(all_in_reach(LABELS, KNOWN, limit=9)), 9)
        self.assertEqual(len(all_in_reach(LABELS, KNOWN, limit=10)), 9)
        self.assertRaisesWith(TooMany, {"limit": 8}, all_in_reach, LABELS, KNOWN, limit=8)
        self.assertEqual(all_in_reach(LABELS, KNOWN[:1], limit=1), KNOWN[:1])

    def test_two_thousand(self):
        letters = "stuvwxyz"
        schema = label_schema("mine", "theirs", "mine", "theirs")
        known = [(letter, letters[at // 2], letters[at % 5], letters[(at * at) % 7]) for at, letter in enumerate(letters)]
        known += [(letter, letters[7 - at], letters[(at * 3) % 8], letters[at % 4]) for at, letter in enumerate(letters)]
        count = Reach(schema, known).label_count()
        self.assertGreater(count, 400)
        self.assertRaisesWith(TooMany, {"limit": 400}, all_in_reach, schema, known)
        if count <= 2000:
            self.assertEqual(len(all_in_reach(schema, known, limit=count)), count)
            self.assertRaisesWith(TooMany, {"limit": count - 1}, all_in_reach, schema, known, limit=count - 1)
        else:
            self.assertRaisesWith(TooMany, {"limit": 2000}, all_in_reach, schema, known, limit=2000)
        half = [version[:3] for version in known]
        schema = label_schema("mine", "theirs", "mine")
        found = all_in_reach(schema, half, limit=2000)
        self.assertEqual(len(found), Reach(schema, half).label_count())
        self.assertEqual(found, sorted(set(found)))

    def test_very_many(self):
        source = random.Random(67)
        known = [tuple(source.choice("stuvwxyz") for _ in range(12)) + (0, 0, 0, 0) for _ in range(40)]
        self.assertRaisesWith(TooMany, {"limit": 2000}, all_in_reach, LARGE, known, limit=2000)

    def test_by_name(self):
        self.assertSame(all_in_reach(limit=2, versions=KNOWN[:2], schema=LABELS), sorted(KNOWN[:2]))


if __name__ == "__main__":
    unittest.main()

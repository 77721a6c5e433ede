import itertools
import random
import unittest

from mergereach.errors import InvalidRule, InvalidRules, InvalidVersion, RuleKept
from mergereach.reach import Reach
from mergereach.rules import breaking_script, first_broken, is_kept, is_rule, satisfies
from mergereach.schemas import Schema, labels_of, vector_of
from mergereach.scripts import result_of
from tests.support import (BLUE, LARGE, MIXED, NO_LISTS, NO_NAMES, NO_NUMBERS, NO_STRINGS, NO_TUPLES, ONLY_COUNTERS,
                           ONLY_LABELS, RED, SIXTY, Case, EqualToAll, Thing, deep_list, endless_list, example_schema,
                           joined, label_schema, produced, random_cases, random_rule, random_schema, random_version,
                           satisfies_by_words, some_in_reach, wrong_versions)

KNOWN = [RED, BLUE]
THREE = KNOWN + [("gray", "held", 10)]
PAIRS = ("labels", ("color", "state"), (("red", "open"), ("blue", "shut")))
EVEN = ("counters", (1,), 0, 2)
FOURS = ("counters", (1,), 2, 4)
EIGHTS = ("counters", (1,), 2, 8)


def example_reach(known=KNOWN):
    return Reach(example_schema(), known)


def wrong_rules():
    """Values that are no rules of the example schema."""
    fields, allowed = ("color", "state"), (("red", "open"),)
    wrong = NO_TUPLES + [(), ("labels",), ("labels", fields), ("labels", fields, allowed, allowed), (fields, allowed)]
    wrong += [list(PAIRS), list(EVEN), ["either", PAIRS, EVEN], (PAIRS,), (PAIRS, EVEN), {"labels": 1}, "labels color red"]
    wrong += [(word, fields, allowed) for word in NO_STRINGS + ["", "label", "Labels", "labels ", "counters", "either"]]
    wrong += [("labels", thing, allowed) for thing in NO_TUPLES + [(), "color", ["color", "state"], {"color": 1}]]
    wrong += [("labels", fields, thing) for thing in NO_TUPLES + [[("red", "open")], "red", {("red", "open"): 1}]]
    wrong += [("labels", (thing,), ()) for thing in NO_STRINGS + ["", "stock", "size", "Color", "color ", ("color",)]]
    wrong += [("labels", ("color", thing), ()) for thing in NO_STRINGS + ["color", "stock", "size"]]
    wrong += [("labels", ("color", "state", "color"), ()), ("labels", ("state", "state"), (("open", "open"),))]
    wrong += [("labels", ("stock",), (("ten",),)), ("labels", ("color", "stock"), (("red", "ten"),))]
    wrong += [("labels", fields, (thing,)) for thing in NO_TUPLES + [("red",), ("red", "open", "red"), (), "redopen"]]
    wrong += [("labels", fields, (("red", "open"), ["red", "open"])), ("labels", ("color",), ("red",))]
    wrong += [("labels", fields, allowed * 2), ("labels", ("color",), (("red",), ("blue",), ("red",)))]
    wrong += [("labels", ("color",), ((name,),)) for name in NO_NAMES]
    wrong += [("labels", fields, (("red", name),)) for name in NO_NAMES]
    wrong += [("counters",), ("counters", (1,)), ("counters", (1,), 0), ("counters", (1,), 0, 2, 0), ("counters", 1, 0, 2)]
    wrong += [(word, (1,), 0, 2) for word in NO_STRINGS + ["", "counter", "labels", "either"]]
    wrong += [("counters", thing, 0, 2) for thing in NO_TUPLES + [(), (1, 1), (1, 0), [1], "1", {1: 1}, ((1,),)]]
    wrong += [("counters", (thing,), 0, 2) for thing in NO_NUMBERS]
    wrong += [("counters", (1,), thing, 2) for thing in NO_NUMBERS]
    wrong += [("counters", (1,), 0, thing) for thing in NO_NUMBERS + [-1, -2, -SIXTY]]
    wrong += [("either",), ("either", PAIRS), ("either", EVEN, PAIRS), ("either", PAIRS, PAIRS), ("either", EVEN, EVEN)]
    wrong += [("either", PAIRS, EVEN, EVEN), ("either", PAIRS, PAIRS, EVEN), ("either", ("either", PAIRS, EVEN), EVEN)]
    wrong += [("either", PAIRS, ("either", PAIRS, EVEN)), ("either", list(PAIRS), EVEN), ("either", PAIRS, list(EVEN))]
    wrong += [("either", thing, EVEN) for thing in NO_TUPLES] + [("either", PAIRS, thing) for thing in NO_TUPLES]
    wrong += [("either", PAIRS, ("counters", (True,), 0, 2)), ("either", ("labels", (), ()), EVEN)]
    wrong += [("either", PAIRS, ("counters", (1,), 0, -2)), ("either", ("labels", ("stock",), ()), EVEN)]
    return wrong


class Forms(Case):
    def test_examples_of_the_document(self):
        schema = example_schema()
        self.assertSame([is_rule(schema, PAIRS), is_rule(schema, ("counters", (1,), 10, 4)),
                         is_rule(schema, ("counters", (1, 1), 10, 4))], [True, True, False])

    def test_label_rules(self):
        schema = example_schema()
        for rule in [PAIRS, ("labels", ("color",), ()), ("labels", ("state",), (("open",),)),
                     ("labels", ("state", "color"), (("open", "red"), ("red", "open"))),
                     ("labels", ("color",), (("never",), ("abcdefgh",)))]:
            self.assertIs(is_rule(schema, rule), True)

    def test_one_to_four_fields(self):
        names = tuple(LARGE.label_names())
        for count in range(1, 13):
            rule = ("labels", names[:count], (("x",) * count,))
            self.assertIs(is_rule(LARGE, rule), count <= 4)
        self.assertIs(is_rule(LARGE, ("labels", names[11:7:-1], ())), True)
        self.assertIs(is_rule(LARGE, ("labels", names[:3] + names[:1], ())), False)
        self.assertIs(is_rule(LARGE, ("labels", names[:3] + ("na",), ())), False)
        self.assertIs(is_rule(LARGE, ("labels", (), ((),))), False)

    def test_many_allowed_tuples(self):
        letters = "abcdefghijklmnopqrst"
        allowed = tuple(itertools.product(letters, repeat=2))
        self.assertIs(is_rule(example_schema(), ("labels", ("color", "state"), allowed)), True)
        self.assertIs(is_rule(example_schema(), ("labels", ("color", "state"), allowed + allowed[:1])), False)

    def test_counter_rules(self):
        schema = example_schema()
        for rule in [EVEN, EIGHTS, ("counters", (0,), 0, 0), ("counters", (-3,), -7, 1), ("counters", (SIXTY,), -SIXTY, SIXTY)]:
            self.assertIs(is_rule(schema, rule), True)
        for width in range(6):
            rule = ("counters", (1,) * width, 0, 0)
            self.assertIs(is_rule(LARGE, rule), width == 4)
            self.assertIs(is_rule(ONLY_COUNTERS, rule), width == 2)
            self.assertIs(is_rule(ONLY_LABELS, rule), width == 0)
        self.assertIs(is_rule(LARGE, ("counters", (1, 2, 3, True), 0, 0)), False)

    def test_rules_of_both_kinds(self):
        self.assertIs(is_rule(example_schema(), ("either", PAIRS, EVEN)), True)
        self.assertIs(is_rule(ONLY_LABELS, ("either", ("labels", ("a",), ()), ("counters", (), 1, 0))), True)
        self.assertIs(is_rule(ONLY_COUNTERS, ("either", ("labels", ("n",), ()), ("counters", (1, 1), 1, 0))), False)

    def test_things_that_are_no_rules(self):
        schema = example_schema()
        for thing in wrong_rules() + [deep_list(), endless_list(), Thing(), EqualToAll()]:
            self.assertIs(is_rule(schema, thing), False)

    def test_rules_of_another_schema(self):
        self.assertIs(is_rule(ONLY_LABELS, PAIRS), False)
        self.assertIs(is_rule(ONLY_LABELS, EVEN), False)
        self.assertIs(is_rule(ONLY_COUNTERS, PAIRS), False)

    def test_random_rules(self):
        source = random.Random(51)
        for _ in range(100):
            schema = random_schema(source)
            self.assertIs(is_rule(schema, random_rule(source, schema)), True)

    def test_by_name(self):
        self.assertIs(is_rule(schema=example_schema(), thing=PAIRS), True)
        self.assertIs(is_rule(thing=None, schema=example_schema()), False)


class InvalidRulesInCalls(Case):
    def test_values_that_are_no_rules(self):
        schema, reach = example_schema(), example_reach()
        for rule in wrong_rules():
            self.assertRaisesWith(InvalidRule, {"rule": rule}, satisfies, schema, RED, rule)
            self.assertRaisesWith(InvalidRule, {"rule": rule}, is_kept, reach, rule)
            self.assertRaisesWith(InvalidRule, {"rule": rule}, breaking_script, reach, rule)
            self.assertRaisesWith(InvalidRules, {"index": 1}, first_broken, reach, [EIGHTS, rule, None])
        for rule in (deep_list(), endless_list()):
            self.assertRaises(InvalidRule, satisfies, schema, RED, rule)
            self.assertRaises(InvalidRule, is_kept, reach, rule)
            self.assertRaises(InvalidRule, breaking_script, reach, rule)
            self.assertRaisesWith(InvalidRules, {"index": 0}, first_broken, reach, (rule,))

    def test_a_wrong_version_comes_first(self):
        schema = example_schema()
        for version in wrong_versions():
            self.assertRaisesWith(InvalidVersion, {"version": version}, satisfies, schema, version, PAIRS)
            self.assertRaisesWith(InvalidVersion, {"version": version}, satisfies, schema, version, None)
        self.assertRaisesWith(InvalidRule, {"rule": None}, satisfies, schema, RED, None)

    def test_lists_of_rules(self):
        reach = example_reach()
        for rules in NO_LISTS + [PAIRS[0], {0: PAIRS}, {PAIRS}]:
            self.assertRaisesWith(InvalidRules, {"index": -1}, first_broken, reach, rules)
        self.assertRaisesWith(InvalidRules, {"index": 0}, first_broken, reach, PAIRS)
        self.assertRaisesWith(InvalidRules, {"index": 2}, first_broken, reach, (PAIRS, EVEN, list(EVEN), None))

    def test_a_wrong_rule_comes_before_a_broken_one(self):
        self.assertRaisesWith(InvalidRules, {"index": 2}, first_broken, example_reach(), [EIGHTS, PAIRS, ("counters",)])

    def test_the_rule_of_an_error_does_not_change(self):
        rule = ["labels", ["color"], [["red"]]]
        error = self.assertRaisesWith(InvalidRule, {}, is_kept, example_reach(), rule)
        rule[1].append("state")
        rule[2][0].clear()
        self.assertSame(error.rule, ["labels", ["color"], [["red"]]])


class Satisfying(Case):
    def test_examples_of_the_document(self):
        schema = example_schema()
        self.assertSame([satisfies(schema, ("red", "open", 10), PAIRS), satisfies(schema, ("red", "shut", 10), PAIRS)],
                        [True, False])

    def test_label_rules(self):
        schema = example_schema()
        for color, state in itertools.product(["red", "blue", "gray"], ["open", "shut"]):
            version = (color, state, 3)
            self.assertIs(satisfies(schema, version, PAIRS), (color, state) in PAIRS[2])
            self.assertIs(satisfies(schema, version, ("labels", ("color",), (("red",), ("pink",)))), color == "red")
            self.assertIs(satisfies(schema, version, ("labels", ("state", "color"), (("open", "gray"),))),
                          version[:2] == ("gray", "open"))
            self.assertIs(satisfies(schema, version, ("labels", ("color",), ())), False)

    def test_counter_rules(self):
        for one, other in itertools.product(range(-4, 5), repeat=2):
            version = (one, "x", other, "y")
            self.assertIs(satisfies(MIXED, version, ("counters", (2, -1), 3, 0)), 2 * one - other == 3)
            self.assertIs(satisfies(MIXED, version, ("counters", (2, -1), 3, 5)), (2 * one - other - 3) % 5 == 0)
            self.assertIs(satisfies(MIXED, version, ("counters", (2, -1), -12, 5)), (2 * one - other - 3) % 5 == 0)
            self.assertIs(satisfies(MIXED, version, ("counters", (1, 1), 7, 1)), True)
            self.assertIs(satisfies(MIXED, version, ("counters", (0, 0), 0, 0)), True)
            self.assertIs(satisfies(MIXED, version, ("counters", (0, 0), 1, 0)), False)

    def test_no_counters(self):
        for constant, modulus in [(0, 0), (1, 0), (4, 2), (5, 2), (-3, 3)]:
            wanted = constant == 0 if modulus == 0 else constant % modulus == 0
            self.assertIs(satisfies(ONLY_LABELS, ("x", "y"), ("counters", (), constant, modulus)), wanted)

    def test_rules_of_both_kinds(self):
        schema = example_schema()
        rule = ("either", PAIRS, EVEN)
        self.assertSame([satisfies(schema, version, rule) for version in
                         [("red", "open", 2), ("red", "open", 3), ("red", "shut", 2), ("red", "shut", 3)]],
                        [True, True, True, False])

    def test_great_numbers(self):
        schema = example_schema()
        rule = ("counters", (SIXTY,), SIXTY * SIXTY, 0)
        self.assertIs(satisfies(schema, ("red", "open", SIXTY), rule), True)
        self.assertIs(satisfies(schema, ("red", "open", SIXTY - 1), rule), False)
        self.assertIs(satisfies(schema, ("red", "open", 1 + SIXTY), ("counters", (SIXTY,), 0, SIXTY)), True)
        self.assertIs(satisfies(schema, ("red", "open", SIXTY ** 3), ("counters", (-1,), 1, SIXTY)), False)

    def test_by_the_words(self):
        source = random.Random(52)
        found = []
        for _ in range(300):
            schema = random_schema(source, 4, 3)
            version, rule = random_version(source, schema), random_rule(source, schema)
            found.append(satisfies(schema, version, rule))
            self.assertIs(found[-1], satisfies_by_words(schema, version, rule))
        self.assertGreater(min(found.count(True), found.count(False)), 50)

    def test_by_name_and_nothing_changes(self):
        schema = example_schema()
        self.assertIs(satisfies(schema=schema, version=RED, rule=PAIRS), True)
        self.assertIs(satisfies(rule=EVEN, version=("red", "open", 7), schema=schema), False)
        self.assertSame([RED, PAIRS], [("red", "open", 10),
                                       ("labels", ("color", "state"), (("red", "open"), ("blue", "shut")))])


class Keeping(Case):
    def check(self, reach, rule):
        """Whether the rule is kept; otherwise the breaking script breaks it."""
        kept = is_kept(reach, rule)
        self.assertIn(kept, (True, False))
        self.assertSame(first_broken(reach, [rule]), None if kept else 0)
        if kept:
            self.assertRaisesWith(RuleKept, {"rule": rule}, breaking_script, reach, rule)
        else:
            steps = breaking_script(reach, rule)
            self.assertIsInstance(steps, list)
            version = result_of(reach.schema(), reach.versions(), steps)
            self.assertIs(satisfies(reach.schema(), version, rule), False)
            self.assertFalse(satisfies_by_words(reach.schema(), version, rule))
        return kept

    def test_examples_of_the_document(self):
        reach = example_reach()
        self.assertSame([is_kept(reach, PAIRS), is_kept(example_reach(KNOWN + [("gray", "held", 10)]), PAIRS),
                         is_kept(reach, ("counters", (1,), 0, 2))], [True, False, True])
        rule = ("counters", (1,), 2, 8)
        self.assertIs(satisfies(example_schema(), result_of(example_schema(), KNOWN, breaking_script(reach, rule)), rule),
                      False)
        self.assertRaisesWith(RuleKept, {"rule": PAIRS}, breaking_script, reach, PAIRS)
        self.assertSame([first_broken(reach, [PAIRS, ("counters", (1,), 2, 8)]), first_broken(reach, [PAIRS])], [1, None])

    def test_label_rules(self):
        reach = example_reach()
        self.assertIs(self.check(reach, PAIRS), True)
        self.assertIs(self.check(reach, ("labels", ("state", "color"), (("open", "red"), ("shut", "blue")))), True)
        self.assertIs(self.check(reach, ("labels", ("color",), (("red",), ("blue",), ("pink",)))), True)
        self.assertIs(self.check(reach, ("labels", ("color",), (("red",), ("pink",)))), False)
        self.assertIs(self.check(reach, ("labels", ("color", "state"), (("red", "open"), ("blue", "open")))), False)

    def test_no_allowed_tuple(self):
        for known in ([RED], KNOWN, THREE):
            self.assertIs(self.check(example_reach(known), ("labels", ("color",), ())), False)
            self.assertIs(self.check(example_reach(known), ("labels", ("state", "color"), ())), False)

    def test_fields_that_are_not_linked(self):
        every = tuple(itertools.product(["red", "blue", "gray"], ["open", "shut", "held"]))
        reach = example_reach(THREE)
        self.assertIs(self.check(reach, ("labels", ("color", "state"), every)), True)
        for missing in every:
            rest = tuple(row for row in every if row != missing)
            self.assertIs(self.check(reach, ("labels", ("color", "state"), rest)), False)
            result = result_of(example_schema(), THREE, breaking_script(reach, ("labels", ("color", "state"), rest)))
            self.assertEqual(result[:2], missing)

    def test_labels_against_all_picks(self):
        source = random.Random(53)
        answers = []
        for schema, known in random_cases(54, 150, 4):
            reach = Reach(schema, known)
            versions = produced(schema, known)
            fields = tuple(source.sample(schema.names(), source.randint(1, min(4, len(schema)))))
            rows = sorted({tuple(version[schema.names().index(name)] for name in fields) for version in versions})
            for left_out in (0, 0, 1):
                allowed = source.sample(rows, max(0, len(rows) - left_out)) + [("w",) * len(fields)]
                rule = ("labels", fields, tuple(allowed))
                answers.append(self.check(reach, rule))
                self.assertIs(answers[-1], all(satisfies_by_words(schema, version, rule) for version in versions))
        self.assertGreater(min(answers.count(True), answers.count(False)), 50)

    def test_four_fields_of_twelve_with_eight_values(self):
        letters = "stuvwxyz"
        source = random.Random(55)
        known = [tuple(source.choice(letters) for _ in range(12)) + (at, 0, 0, 0) for at in range(40)]
        known[:8] = [(letter,) * 12 + (0, 1, 2, 3) for letter in letters]
        reach = Reach(LARGE, known)
        names = LARGE.label_names()
        fields = (names[11], names[3], names[0], names[6])
        self.assertEqual(len(reach.blocks()), 12)
        self.assertIs(self.check(reach, ("labels", fields, tuple(itertools.product("stuvw", repeat=4))[:400])), False)
        self.assertIs(self.check(reach, ("labels", (names[5],), tuple((letter,) for letter in letters))), True)
        self.assertIs(self.check(reach, ("labels", (names[5],), tuple((letter,) for letter in letters[1:]))), False)
        every = tuple(itertools.product(letters, repeat=2))
        self.assertIs(self.check(reach, ("labels", (names[8], names[2]), every)), True)
        self.assertIs(self.check(reach, ("labels", (names[8], names[2]), every[:-1])), False)
        self.assertIs(self.check(reach, ("labels", (names[8], names[2]), every[1:])), False)

    def test_counter_rules(self):
        reach = example_reach()
        for modulus in range(9):
            for constant in range(-9, 10):
                wanted = modulus in (1, 2, 4) and (constant - 10) % modulus == 0
                self.assertIs(self.check(reach, ("counters", (1,), constant, modulus)), wanted)
        self.assertIs(self.check(reach, ("counters", (0,), 0, 0)), True)
        self.assertIs(self.check(reach, ("counters", (0,), 1, 0)), False)
        self.assertIs(self.check(reach, ("counters", (2,), 20, 8)), True)
        self.assertIs(self.check(example_reach([RED]), ("counters", (1,), 10, 0)), True)
        self.assertIs(self.check(example_reach([RED]), ("counters", (1,), 11, 0)), False)

    def test_counter_rules_that_every_known_version_satisfies(self):
        source = random.Random(56)
        answers = []
        for _ in range(150):
            schema = random_schema(source, 2, 4)
            known = [random_version(source, schema) for _ in range(source.randint(1, 3))]
            vectors = [vector_of(schema, version) for version in known]
            coefficients = tuple(source.randint(-2, 2) for _ in vectors[0])
            sums = [sum(a * b for a, b in zip(coefficients, vector)) for vector in vectors]
            rule = ("counters", coefficients, sums[0] + source.choice([0, 0, 1]), source.choice([0, 1, 2, 3]))
            answers.append(self.check(Reach(schema, known), rule))
            self.assertIs(answers[-1], all(satisfies_by_words(schema, version, rule) for version in known))
        self.assertGreater(min(answers.count(True), answers.count(False)), 30)

    def test_great_coefficients(self):
        known = [("red", "open", SIXTY), ("blue", "shut", -SIXTY)]
        reach = example_reach(known)
        self.assertIs(self.check(reach, ("counters", (SIXTY,), 1, SIXTY)), False)
        self.assertIs(self.check(reach, ("counters", (SIXTY,), 0, SIXTY)), True)
        self.assertIs(self.check(reach, ("counters", (1,), SIXTY, 2 * SIXTY)), True)
        self.assertIs(self.check(reach, ("counters", (1,), SIXTY, 4 * SIXTY)), False)

    def test_rules_of_both_kinds(self):
        reach = example_reach()
        broken = ("labels", ("color",), (("red",),))
        for labels, counters in itertools.product((PAIRS, broken), (EVEN, EIGHTS)):
            self.assertIs(self.check(reach, ("either", labels, counters)), labels == PAIRS or counters == EVEN)

    def test_no_known_version_breaks_the_rule_of_both_kinds(self):
        # Each known version satisfies one of the two rules, but labels and counters fall apart.
        rule = ("either", ("labels", ("color",), (("red",),)), ("counters", (1,), 14, 0))
        self.assertTrue(all(satisfies(example_schema(), version, rule) for version in KNOWN))
        self.assertIs(self.check(example_reach(), rule), False)
        steps = breaking_script(example_reach(), rule)
        result = result_of(example_schema(), KNOWN, steps)
        self.assertEqual(result[:2], ("blue", "shut"))
        self.assertNotEqual(result[2], 14)

    def test_random_rules(self):
        source = random.Random(57)
        answers = []
        for _ in range(300):
            schema = random_schema(source, 5, 2)
            reach = Reach(schema, [random_version(source, schema) for _ in range(source.randint(1, 3))])
            rule = random_rule(source, schema, reach.versions())
            answers.append(self.check(reach, rule))
            if answers[-1]:
                versions = reach.versions() + some_in_reach(source, reach, 5)
                versions += [joined(schema, labels_of(schema, one), vector_of(schema, other))
                             for one, other in itertools.product(versions, repeat=2)]
                for version in versions:
                    self.assertIs(satisfies(schema, version, rule), True)
        self.assertGreater(min(answers.count(True), answers.count(False)), 40)

    def test_repeated_calls_and_new_lists(self):
        reach = example_reach(THREE)
        first = breaking_script(reach, PAIRS)
        self.assertSame(breaking_script(reach, PAIRS), first)
        first.clear()
        self.assertNotEqual(breaking_script(reach, PAIRS), [])
        self.assertEqual(reach, example_reach(THREE))

    def test_by_name(self):
        self.assertIs(is_kept(reach=example_reach(), rule=PAIRS), True)
        self.assertIs(is_kept(rule=EIGHTS, reach=example_reach()), False)
        self.assertSame(breaking_script(rule=EIGHTS, reach=example_reach()), breaking_script(example_reach(), EIGHTS))
        self.assertSame(first_broken(rules=[EIGHTS], reach=example_reach()), 0)


class FirstBroken(Case):
    def test_no_rules(self):
        for rules in ([], ()):
            self.assertIs(first_broken(example_reach(), rules), None)

    def test_the_first_one(self):
        reach = example_reach()
        self.assertSame(first_broken(reach, [EIGHTS, EIGHTS]), 0)
        self.assertSame(first_broken(reach, [EVEN, PAIRS, ("labels", ("color",), ()), EIGHTS]), 2)
        self.assertSame(first_broken(reach, (EVEN,) * 30 + (EIGHTS, EIGHTS)), 30)
        self.assertIs(first_broken(reach, [EVEN, FOURS, PAIRS] * 10), None)

    def test_the_list_does_not_change(self):
        rules = [PAIRS, EIGHTS]
        first_broken(example_reach(), rules)
        self.assertSame(rules, [PAIRS, EIGHTS])


class Guarantees(Case):
    def test_scripts_do_not_break_a_rule_that_is_kept(self):
        source = random.Random(58)
        count = 0
        for _ in range(150):
            schema = random_schema(source, 4, 2)
            known = [random_version(source, schema) for _ in range(source.randint(1, 3))]
            rule = random_rule(source, schema, known)
            if is_kept(Reach(schema, known), rule):
                count += 1
                for at in range(12):
                    steps = [tuple(source.randrange(len(known) + row) for _ in range(3)) for row in range(at + 1)]
                    self.assertIs(satisfies(schema, result_of(schema, known, steps), rule), True)
        self.assertGreater(count, 30)

    def test_labels_with_three_values(self):
        schema = label_schema("mine", "theirs")
        rule = ("labels", ("a", "b"), (("x", "p"), ("y", "q"), ("z", "r")))
        self.assertIs(is_kept(Reach(schema, [("x", "p"), ("y", "q")]), rule), True)
        self.assertIs(is_kept(Reach(schema, [("x", "p"), ("y", "q"), ("z", "r")]), rule), False)
        same = Schema([("a", "mine"), ("b", "mine")])
        self.assertIs(is_kept(Reach(same, [("x", "p"), ("y", "q"), ("z", "r")]), rule), True)


if __name__ == "__main__":
    unittest.main()

import itertools
import random
import unittest

from mergereach.errors import (InvalidLimit, InvalidNames, InvalidRule, InvalidRules, InvalidVersion, InvalidVersions,
                               NotHeld, NotLicensed, RuleBroken, TooMany, UnknownMessage, UnknownReplica)
from mergereach.groups import Group
from mergereach.reach import Reach
from mergereach.rules import satisfies
from mergereach.schemas import Schema
from mergereach.scripts import result_of
from tests.models import FAMILIES, Failure, Model, group_state, random_call, random_start
from tests.support import (BLUE, FIELDS, LARGE, NO_LISTS, NO_NAMES, NO_NUMBERS, NO_STRINGS, ONLY_COUNTERS, ONLY_LABELS,
                           RED, SIXTY, Case, EqualToAll, Thing, deep_list, endless_list, example_schema, same,
                           wrong_versions)

KNOWN = [RED, BLUE]
PAIRS = ("labels", ("color", "state"), (("red", "open"), ("blue", "shut")))
EVEN = ("counters", (1,), 0, 2)
EIGHTS = ("counters", (1,), 2, 8)
NO_REPLICAS = NO_STRINGS + ["", "Ann", "an", "annn", "ann ", " ann", "cid", "ann bob", "0"]


def example_group(**more):
    return Group(example_schema(), KNOWN, ["ann", "bob"], rules=[PAIRS], **more)


class GroupCase(Case):
    def assertUnchangedBy(self, group, error, fields, function, *args, **named):
        """The call raises this error and does not change the group."""
        before = group_state(group)
        caught = self.assertRaisesWith(error, fields, function, *args, **named)
        self.assertSame(group_state(group), before)
        return caught

    def assertBreaks(self, caught, schema, versions, rule):
        """The steps of the error lead from the versions to one that breaks the rule."""
        self.assertIsInstance(caught.steps, list)
        self.assertIs(satisfies(schema, result_of(schema, versions, caught.steps), rule), False)


class Construction(GroupCase):
    def test_examples_of_the_document(self):
        schema, group = example_schema(), example_group()
        self.assertSame([len(group), group == Group(schema, KNOWN + KNOWN, ["ann", "bob"], rules=[PAIRS]),
                         group == Group(schema, KNOWN, ["ann", "bob"])], [2, True, False])
        self.assertRaisesWith(RuleBroken, {"index": 0}, Group, schema, KNOWN, ["ann"], rules=[("counters", (1,), 2, 8)])
        self.assertSame([group.replicas(), group.rules() == [PAIRS], group.admitted()],
                        [["ann", "bob"], True, [("red", "open", 10), ("blue", "shut", 14)]])

    def test_the_state_at_first(self):
        group = Group(example_schema(), [BLUE, RED, BLUE, RED], ["bob", "ann", "cid"], rules=[PAIRS, EVEN, PAIRS])
        self.assertEqual(group.schema(), example_schema())
        self.assertIsInstance(group.schema(), Schema)
        self.assertSame([group.replicas(), group.rules(), group.first_rules()],
                        [["bob", "ann", "cid"], [PAIRS, EVEN, PAIRS], [PAIRS, EVEN, PAIRS]])
        self.assertSame([group.admitted(), group.first_versions(), len(group)], [[BLUE, RED], [BLUE, RED], 2])
        for name in ("ann", "bob", "cid"):
            self.assertSame([group.held(name), group.licence(name)], [[BLUE, RED], [BLUE, RED]])
        self.assertSame([group.quota, group.message_count, group.operations()], [40, 0, []])

    def test_known_versions_are_not_reduced(self):
        versions = KNOWN + [("blue", "shut", 18)]
        self.assertSame(Group(example_schema(), versions, ["ann"]).admitted(), versions)

    def test_no_rules(self):
        for group in [Group(example_schema(), KNOWN, ["ann"]), Group(example_schema(), KNOWN, ["ann"], rules=[]),
                      Group(example_schema(), KNOWN, ["ann"], rules=())]:
            self.assertSame(group.rules(), [])

    def test_one_replica_and_six(self):
        names = ["ann", "bob", "cid", "dora", "eve", "abcdefgh"]
        for count in range(1, 7):
            self.assertSame(Group(example_schema(), KNOWN, names[:count]).replicas(), names[:count])
            self.assertSame(Group(example_schema(), KNOWN, tuple(names[:count])).replicas(), names[:count])
        self.assertRaisesWith(InvalidNames, {"index": -1}, Group, example_schema(), KNOWN, names + ["fay"])
        self.assertRaisesWith(InvalidNames, {"index": -1}, Group, example_schema(), KNOWN, [])

    def test_one_version_and_forty(self):
        self.assertSame(len(Group(example_schema(), [RED], ["ann"])), 1)
        versions = [("x" * (at % 8 + 1), "open", at * at) for at in range(40)]
        group = Group(example_schema(), versions, ["ann"])
        self.assertSame([len(group), group.admitted(), group.quota], [40, versions, 40])
        self.assertSame(len(Group(example_schema(), [RED] * 40, ["ann"])), 1)
        self.assertRaisesWith(InvalidVersions, {"index": -1}, Group, example_schema(), [RED] * 41, ["ann"])

    def test_labels_alone_and_counters_alone(self):
        group = Group(ONLY_LABELS, [("x", "y"), ("y", "x")], ["ann"], rules=[("counters", (), 0, 0)])
        self.assertSame(group.held("ann"), [("x", "y"), ("y", "x")])
        group = Group(ONLY_COUNTERS, [(1, 2), (3, 4)], ["ann"], rules=[("counters", (1, -1), -1, 0)])
        self.assertSame(group.held("ann"), [(1, 2), (3, 4)])

    def test_values_that_are_no_known_versions(self):
        schema = example_schema()
        for versions in NO_LISTS + [[], (), {0: RED}, schema]:
            self.assertRaisesWith(InvalidVersions, {"index": -1}, Group, schema, versions, ["ann"])
        for version in wrong_versions() + [deep_list(), endless_list()]:
            self.assertRaisesWith(InvalidVersions, {"index": 1}, Group, schema, [RED, version], ["ann"])
        ninth = [("x" * at, "open", 0) for at in range(1, 10)]
        self.assertRaisesWith(InvalidVersions, {"index": 8}, Group, schema, ninth, ["ann"])

    def test_values_that_are_no_replicas(self):
        schema = example_schema()
        for names in NO_LISTS + [[], ()]:
            self.assertRaisesWith(InvalidNames, {"index": -1}, Group, schema, KNOWN, names)
        for name in NO_NAMES + [deep_list(), endless_list()]:
            self.assertRaisesWith(InvalidNames, {"index": 0}, Group, schema, KNOWN, [name])
            self.assertRaisesWith(InvalidNames, {"index": 2}, Group, schema, KNOWN, ("ann", "bob", name, None))
        self.assertRaisesWith(InvalidNames, {"index": 2}, Group, schema, KNOWN, ["ann", "bob", "ann", "bob", None])
        self.assertRaisesWith(InvalidNames, {"index": 1}, Group, schema, KNOWN, ["ann", "ann"])

    def test_values_that_are_no_rules(self):
        schema = example_schema()
        for rules in NO_LISTS + [[EVEN] * 21, (EVEN,) * 21, [None] * 21]:
            self.assertRaisesWith(InvalidRules, {"index": -1}, Group, schema, KNOWN, ["ann"], rules=rules)
        self.assertSame(Group(schema, KNOWN, ["ann"], rules=(EVEN,) * 20).rules(), [EVEN] * 20)
        for rule in [None, True, "labels", list(PAIRS), ("counters", (1, 1), 0, 2), ("counters", (True,), 0, 2), {}, [],
                     ("labels", ("stock",), ()), Thing(), EqualToAll(), deep_list(), endless_list()]:
            self.assertRaisesWith(InvalidRules, {"index": 1}, Group, schema, KNOWN, ["ann"], rules=[PAIRS, rule, None])
            self.assertRaisesWith(InvalidRules, {"index": 1}, Group, schema, KNOWN, ["ann"], rules=[EIGHTS, rule])
        self.assertRaisesWith(InvalidRules, {"index": 0}, Group, schema, KNOWN, ["ann"], rules=PAIRS)

    def test_rules_that_are_not_kept(self):
        schema = example_schema()
        nothing = ("labels", ("color",), ())
        for rules, index in [([EIGHTS], 0), ([PAIRS, EIGHTS, nothing], 1), ([PAIRS, EVEN, nothing, EIGHTS], 2)]:
            for versions in (KNOWN, [RED, RED, BLUE, RED], [BLUE, BLUE, RED]):
                caught = self.assertRaisesWith(RuleBroken, {"index": index}, Group, schema, versions, ["ann"], rules=rules)
                self.assertBreaks(caught, schema, list(dict.fromkeys(versions)), rules[index])

    def test_the_sequence_of_errors(self):
        schema = example_schema()
        self.assertRaises(InvalidVersions, Group, schema, [], None, rules=None)
        self.assertRaises(InvalidNames, Group, schema, KNOWN, None, rules=None)
        self.assertRaises(InvalidRules, Group, schema, KNOWN, ["ann"], rules=None)
        self.assertRaisesWith(InvalidRules, {"index": 1}, Group, schema, KNOWN, ["ann"], rules=[EIGHTS, None])
        self.assertRaisesWith(RuleBroken, {"index": 0}, Group, schema, KNOWN, ["ann"], rules=[EIGHTS])

    def test_by_name_and_by_position(self):
        group = Group(versions=KNOWN, rules=[PAIRS], replicas=["ann", "bob"], schema=example_schema())
        self.assertEqual(group, example_group())
        self.assertRaises(TypeError, Group, example_schema(), KNOWN, ["ann", "bob"], [PAIRS])

    def test_later_changes_have_no_effect(self):
        schema, versions, names, rules = example_schema(), list(KNOWN), ["ann", "bob"], [PAIRS]
        group = Group(schema, versions, names, rules=rules)
        self.assertSame([schema.fields(), versions, names, rules], [FIELDS, KNOWN, ["ann", "bob"], [PAIRS]])
        versions.append(("gray", "held", 1))
        names.append("cid")
        rules.clear()
        self.assertEqual(group, example_group())
        self.assertSame(group_state(group), group_state(example_group()))

    def test_returned_lists_belong_to_the_caller(self):
        group = example_group()
        group.announce()
        for method in (group.replicas, group.rules, group.admitted, group.first_versions, group.first_rules,
                       group.operations, lambda: group.held("ann"), lambda: group.licence("ann"),
                       lambda: group.deliver(0, to="ann")):
            found = method()
            found.append(None)
            self.assertNotIn(None, method())
        self.assertSame(group.held("ann"), KNOWN)
        self.assertIsNot(group.held("ann"), group.licence("ann"))


class Equality(GroupCase):
    def test_other_things(self):
        group = example_group()
        for thing in [None, True, 0, "", KNOWN, example_schema(), Reach(example_schema(), KNOWN), {}, Thing(), Group]:
            self.assertIs(group == thing, False)
            self.assertIs(group != thing, True)
        self.assertIs(group == example_group(), True)
        self.assertIs(group != example_group(), False)

    def test_each_part_counts(self):
        schema = example_schema()
        other_schema = Schema([("color", "mine"), ("state", "mine"), ("stock", "counter")])
        group = Group(schema, KNOWN, ["ann", "bob"], rules=[PAIRS, EVEN])
        for other in [Group(other_schema, KNOWN, ["ann", "bob"], rules=[PAIRS, EVEN]),
                      Group(schema, KNOWN[::-1], ["ann", "bob"], rules=[PAIRS, EVEN]),
                      Group(schema, KNOWN[:1], ["ann", "bob"], rules=[PAIRS, EVEN]),
                      Group(schema, KNOWN, ["bob", "ann"], rules=[PAIRS, EVEN]),
                      Group(schema, KNOWN, ["ann"], rules=[PAIRS, EVEN]),
                      Group(schema, KNOWN, ["ann", "bob"], rules=[EVEN, PAIRS]),
                      Group(schema, KNOWN, ["ann", "bob"], rules=[PAIRS])]:
            self.assertIs(group == other, False)

    def test_what_is_held_and_licences_and_quotas_count(self):
        group, other = example_group(), example_group()
        group.create("ann", ("red", "open", 6))
        self.assertIs(group == other, False)
        other.create("bob", ("red", "open", 6))
        self.assertIs(group == other, False)
        other.create("ann", ("red", "open", 6))
        group.create("bob", ("red", "open", 6))
        self.assertIs(group == other, True)
        group.create("ann", ("red", "open", 2))
        group.create("ann", ("red", "open", -2))
        other.create("ann", ("red", "open", -2))
        other.create("ann", ("red", "open", 2))
        self.assertIs(group == other, False)
        group, other = example_group(), example_group()
        group.set_quota(7)
        self.assertIs(group == other, False)
        other.set_quota(7)
        self.assertIs(group == other, True)

    def test_the_licence_alone(self):
        # The same versions are admitted and held, but only one of the two replicas has been told by the registrar.
        group, other = example_group(), example_group()
        for one in (group, other):
            one.propose("ann", ("red", "open", 11))
        group.deliver(group.announce(), to="bob")
        other.create("ann", ("red", "open", 11))
        self.assertIs(group == other, False)
        other.propose("bob", ("red", "open", 11))
        self.assertSame([group.held("bob"), other.held("bob")], [KNOWN + [("red", "open", 11)]] * 2)
        self.assertNotEqual(group.licence("bob"), other.licence("bob"))
        self.assertIs(group == other, False)

    def test_the_sequence_of_the_admitted_versions_alone(self):
        proposals = [("ann", ("red", "open", 12)), ("bob", ("red", "open", 13))]
        group, other = example_group(), example_group()
        for name, version in proposals:
            self.assertIs(group.propose(name, version), True)
        for name, version in proposals[::-1]:
            other.propose(name, version)
        self.assertIs(group == other, False)
        self.assertIs(group == group.copied(), True)

    def test_messages_and_operations_are_not_compared(self):
        group, other = example_group(), example_group()
        group.send("ann")
        group.announce()
        group.create("ann", RED)
        group.set_quota(40)
        self.assertIs(group == other, True)


class Unknown(GroupCase):
    def test_values_that_are_no_replicas(self):
        group = example_group()
        number = group.announce()
        for name in NO_REPLICAS + [deep_list(), endless_list()]:
            fields = {} if isinstance(name, list) and name and isinstance(name[0], list) else {"name": name}
            for method, args in [(group.held, []), (group.licence, []), (group.create, [RED]), (group.send, []),
                                 (group.pick, [RED, RED, RED]), (group.propose, [RED])]:
                self.assertUnchangedBy(group, UnknownReplica, fields, method, name, *args)
            self.assertUnchangedBy(group, UnknownReplica, fields, group.deliver, number, to=name)
            self.assertUnchangedBy(group, UnknownReplica, fields, group.create, name, None)
            self.assertUnchangedBy(group, UnknownReplica, fields, group.propose, name, None)
            self.assertUnchangedBy(group, UnknownReplica, fields, group.pick, name, None, None, None)

    def test_values_that_are_no_versions(self):
        group = example_group()
        for version in wrong_versions():
            self.assertUnchangedBy(group, InvalidVersion, {"version": version}, group.create, "ann", version)
            self.assertUnchangedBy(group, InvalidVersion, {"version": version}, group.propose, "bob", version)
        for version in (deep_list(), endless_list()):
            self.assertRaises(InvalidVersion, group.create, "ann", version)
            self.assertRaises(InvalidVersion, group.propose, "ann", version)

    def test_values_that_are_no_numbers_of_messages(self):
        group = example_group()
        for number in NO_NUMBERS + [0, 1, -1, SIXTY]:
            self.assertUnchangedBy(group, UnknownMessage, {"number": number}, group.deliver, number, to="ann")
        group.announce()
        group.send("bob")
        for number in NO_NUMBERS + [2, -1, -2, SIXTY]:
            self.assertUnchangedBy(group, UnknownMessage, {"number": number}, group.deliver, number, to="ann")
            self.assertUnchangedBy(group, UnknownMessage, {"number": number}, group.deliver, number, to=None)
        self.assertSame([group.deliver(0, to="ann"), group.deliver(1, to="ann")], [[], []])


class Creating(GroupCase):
    def test_examples_of_the_document(self):
        group = example_group()
        self.assertIs(group.create("ann", ("blue", "shut", 18)), None)
        self.assertSame(group.held("ann"), [("red", "open", 10), ("blue", "shut", 14), ("blue", "shut", 18)])
        self.assertRaisesWith(NotLicensed, {"version": ("red", "shut", 10)}, group.create, "ann", ("red", "shut", 10))

    def test_inside_and_outside_of_the_reach(self):
        group = example_group()
        for version in [("red", "open", -2), ("blue", "shut", 10 + 4 * SIXTY), RED]:
            group.create("bob", version)
        self.assertSame(group.held("bob"), KNOWN + [("red", "open", -2), ("blue", "shut", 10 + 4 * SIXTY)])
        for version in [("gray", "open", 10), ("red", "shut", 10), ("red", "open", 11), ("red", "open", SIXTY)]:
            self.assertUnchangedBy(group, NotLicensed, {"version": version}, group.create, "bob", version)
        self.assertSame([group.held("ann"), group.admitted(), group.licence("bob")], [KNOWN, KNOWN, KNOWN])

    def test_the_licence_of_this_replica_counts(self):
        group = example_group()
        group.propose("ann", ("red", "open", 12))
        self.assertUnchangedBy(group, NotLicensed, {"version": ("red", "open", 12)}, group.create, "bob",
                               ("red", "open", 12))
        group.create("ann", ("blue", "shut", 16))
        group.deliver(group.announce(), to="bob")
        group.create("bob", ("blue", "shut", 16))
        # What is held without a licence gives no right to create.
        late = example_group()
        late.propose("ann", ("red", "open", 12))
        late.create("ann", ("red", "open", 14))
        self.assertNotIn(("red", "open", 14), late.held("bob"))
        self.assertRaises(NotLicensed, late.create, "bob", ("red", "open", 16))

    def test_a_version_that_is_held(self):
        group = example_group()
        group.create("ann", RED)
        group.create("ann", ("red", "open", 6))
        group.create("ann", ("red", "open", 6))
        self.assertSame(group.held("ann"), KNOWN + [("red", "open", 6)])
        self.assertEqual(len(group.operations()), 3)

    def test_by_name(self):
        group = example_group()
        group.create(version=("red", "open", 6), name="ann")
        self.assertSame(group.held(name="ann"), KNOWN + [("red", "open", 6)])
        self.assertSame(group.licence(name="ann"), KNOWN)


class Picking(GroupCase):
    def test_example_of_the_document(self):
        group = example_group()
        self.assertSame(group.pick("ann", ("red", "open", 10), ("blue", "shut", 14), ("red", "open", 10)),
                        ("red", "open", 6))

    def test_the_result_is_held(self):
        group = example_group()
        self.assertSame(group.pick("ann", RED, BLUE, RED), ("red", "open", 6))
        self.assertSame(group.pick("ann", RED, BLUE, ("red", "open", 6)), ("red", "open", 2))
        self.assertSame(group.pick("ann", RED, RED, BLUE), BLUE)
        self.assertSame(group.held("ann"), KNOWN + [("red", "open", 6), ("red", "open", 2)])
        self.assertSame([group.held("bob"), group.licence("ann"), group.admitted()], [KNOWN] * 3)

    def test_versions_that_are_not_held(self):
        group = example_group()
        group.create("bob", ("red", "open", 6))
        for version in wrong_versions() + [("red", "open", 6), ("gray", "open", 10), ("red", "open", 14)]:
            fields = {"version": version}
            self.assertUnchangedBy(group, NotHeld, fields, group.pick, "ann", version, RED, RED)
            self.assertUnchangedBy(group, NotHeld, fields, group.pick, "ann", RED, version, RED)
            self.assertUnchangedBy(group, NotHeld, fields, group.pick, "ann", RED, RED, version)
            self.assertUnchangedBy(group, NotHeld, fields, group.pick, "ann", BLUE, version, None)
            self.assertUnchangedBy(group, NotHeld, fields, group.pick, "ann", version, None, ())
        self.assertRaises(NotHeld, group.pick, "ann", deep_list(), RED, RED)
        self.assertRaises(NotHeld, group.pick, "ann", RED, endless_list(), RED)

    def test_a_bool_is_no_counter(self):
        group = Group(ONLY_COUNTERS, [(0, 1)], ["ann"])
        for version in [(False, 1), (0, True), (False, True)]:
            self.assertUnchangedBy(group, NotHeld, {"version": version}, group.pick, "ann", version, (0, 1), (0, 1))
        self.assertSame(group.pick("ann", (0, 1), (0, 1), (0, 1)), (0, 1))

    def test_by_name(self):
        group = example_group()
        self.assertSame(group.pick(theirs=RED, base=BLUE, ours=RED, name="bob"), ("red", "open", 6))


class Proposing(GroupCase):
    def test_examples_of_the_document(self):
        group = example_group()
        self.assertSame([group.propose("bob", ("red", "open", 11)), group.propose("bob", ("blue", "shut", 0)),
                         group.licence("bob")],
                        [True, False, [("red", "open", 10), ("blue", "shut", 14), ("red", "open", 11)]])
        caught = self.assertRaisesWith(RuleBroken, {"index": 0}, group.propose, "bob", ("gray", "held", 10))
        self.assertBreaks(caught, example_schema(), group.admitted() + [("gray", "held", 10)], PAIRS)

    def test_a_version_in_reach(self):
        group = example_group()
        self.assertIs(group.propose("ann", ("red", "open", 6)), False)
        self.assertIs(group.propose("ann", RED), False)
        self.assertSame([group.held("ann"), group.licence("ann"), group.admitted(), group.held("bob")],
                        [KNOWN + [("red", "open", 6)], KNOWN, KNOWN, KNOWN])

    def test_a_version_that_is_admitted(self):
        group = example_group()
        version = ("blue", "shut", 15)
        self.assertIs(group.propose("ann", version), True)
        self.assertSame([group.held("ann"), group.licence("ann"), group.admitted()], [KNOWN + [version]] * 3)
        self.assertSame([group.held("bob"), group.licence("bob"), len(group)], [KNOWN, KNOWN, 3])
        self.assertIs(group.propose("bob", version), False)
        self.assertSame([group.held("bob"), group.licence("bob"), len(group)], [KNOWN + [version], KNOWN, 3])

    def test_a_version_that_a_rule_refuses(self):
        schema = example_schema()
        red = ("labels", ("color",), (("red",), ("blue",)))
        either = ("either", ("labels", ("state",), (("open",), ("shut",))), ("counters", (1,), 2, 4))
        group = Group(schema, KNOWN, ["ann", "bob"], rules=[red, either, EVEN])
        for version, index in [(("gray", "open", 10), 0), (("red", "held", 11), 1), (("red", "open", 11), 2),
                               (("gray", "held", 11), 0)]:
            caught = self.assertUnchangedBy(group, RuleBroken, {"index": index}, group.propose, "ann", version)
            self.assertBreaks(caught, schema, KNOWN + [version], group.rules()[index])
        self.assertIs(group.propose("ann", ("red", "shut", 10)), True)
        self.assertIs(group.propose("ann", ("red", "held", 10)), True)
        self.assertIs(group.propose("ann", ("blue", "held", 14)), False)
        caught = self.assertUnchangedBy(group, RuleBroken, {"index": 1}, group.propose, "bob", ("red", "open", 12))
        self.assertBreaks(caught, schema, group.admitted() + [("red", "open", 12)], either)

    def test_no_rule_refuses_nothing(self):
        group = Group(example_schema(), [RED], ["ann"])
        for version in [BLUE, ("gray", "held", 10), ("pink", "lost", SIXTY)]:
            self.assertIs(group.propose("ann", version), True)

    def test_a_ninth_value(self):
        versions = [("x" * at, "open", 0) for at in range(1, 9)]
        group = Group(example_schema(), versions, ["ann"])
        self.assertUnchangedBy(group, TooMany, {"limit": 8}, group.propose, "ann", ("y", "open", 0))
        self.assertIs(group.propose("ann", ("x", "shut", 0)), True)
        self.assertIs(group.propose("ann", ("x" * 8, "shut", 0)), False)
        few = Group(example_schema(), versions[:7], ["ann"])
        self.assertIs(few.propose("ann", ("y", "open", 0)), True)
        self.assertUnchangedBy(few, TooMany, {"limit": 8}, few.propose, "ann", ("z", "shut", 7))
        last = Schema([("n", "counter"), ("a", "mine"), ("b", "theirs")])
        group = Group(last, [(0, "x", "x" * at) for at in range(1, 9)], ["ann"])
        self.assertUnchangedBy(group, TooMany, {"limit": 8}, group.propose, "ann", (0, "x", "y"))

    def test_the_quota(self):
        group = example_group()
        group.set_quota(3)
        self.assertIs(group.propose("ann", ("red", "open", 12)), True)
        self.assertUnchangedBy(group, TooMany, {"limit": 3}, group.propose, "ann", ("red", "open", 11))
        self.assertIs(group.propose("ann", ("red", "open", 14)), False)
        group.set_quota(4)
        self.assertIs(group.propose("bob", ("red", "open", 11)), True)
        self.assertUnchangedBy(group, TooMany, {"limit": 4}, group.propose, "bob", ("gray", "open", 11))

    def test_forty_versions(self):
        versions = [("red", "open", 2 ** (41 - at)) for at in range(39)]
        group = Group(example_schema(), versions, ["ann"])
        self.assertIs(group.propose("ann", ("red", "open", 2)), True)
        self.assertSame([len(group), group.quota], [40, 40])
        self.assertUnchangedBy(group, TooMany, {"limit": 40}, group.propose, "ann", ("red", "open", 1))
        self.assertIs(group.propose("ann", ("red", "open", 6)), False)

    def test_the_sequence_of_errors(self):
        versions = [("x" * at, "open", 0) for at in range(1, 9)]
        allowed = tuple(("x" * at,) for at in range(1, 9))
        group = Group(example_schema(), versions, ["ann"], rules=[("labels", ("color",), allowed),
                                                                ("counters", (1,), 0, 0)])
        group.set_quota(8)
        self.assertUnchangedBy(group, TooMany, {"limit": 8}, group.propose, "ann", ("y", "open", 5))
        self.assertUnchangedBy(group, TooMany, {"limit": 8}, group.propose, "ann", ("x", "open", 5))
        group.set_quota(40)
        self.assertUnchangedBy(group, TooMany, {"limit": 8}, group.propose, "ann", ("y", "open", 5))
        self.assertUnchangedBy(group, RuleBroken, {"index": 1}, group.propose, "ann", ("x", "open", 5))
        small = Group(example_schema(), KNOWN, ["ann"], rules=[PAIRS])
        small.set_quota(2)
        self.assertUnchangedBy(small, TooMany, {"limit": 2}, small.propose, "ann", ("gray", "held", 10))
        self.assertUnchangedBy(small, UnknownReplica, {"name": "bob"}, small.propose, "bob", None)
        self.assertUnchangedBy(small, InvalidVersion, {"version": None}, small.propose, "ann", None)

    def test_by_name(self):
        self.assertIs(example_group().propose(version=("red", "open", 11), name="bob"), True)

    def test_twelve_label_fields_and_four_counters(self):
        versions = [("x",) * 12 + (0, 0, 0, 0), ("y",) * 12 + (2, 0, 0, 2)]
        rule = ("labels", tuple(LARGE.label_names()[8:]), (("x",) * 4, ("y",) * 4))
        group = Group(LARGE, versions, ["ann"], rules=[rule, ("counters", (1, 0, 0, -1), 0, 0)])
        self.assertIs(group.propose("ann", ("z",) * 8 + ("x",) * 4 + (1, 5, 7, 1)), True)
        third = ("x",) * 8 + ("z",) * 4 + (0, 0, 0, 0)
        caught = self.assertUnchangedBy(group, RuleBroken, {"index": 0}, group.propose, "ann", third)
        self.assertBreaks(caught, LARGE, group.admitted() + [third], rule)
        last = ("x",) * 12 + (0, 0, 0, 10 ** 30)
        caught = self.assertUnchangedBy(group, RuleBroken, {"index": 1}, group.propose, "ann", last)
        self.assertBreaks(caught, LARGE, group.admitted() + [last], group.rules()[1])


class Rules(GroupCase):
    def test_example_of_the_document(self):
        group = example_group()
        self.assertIs(group.add_rule(("counters", (1,), 0, 2)), None)
        self.assertRaisesWith(RuleBroken, {"index": 1}, group.propose, "bob", ("red", "open", 11))

    def test_rules_are_added_and_refused(self):
        group = example_group()
        group.add_rule(EVEN)
        group.add_rule(PAIRS)
        self.assertSame([group.rules(), group.first_rules()], [[PAIRS, EVEN, PAIRS], [PAIRS]])
        for rule in [EIGHTS, ("labels", ("color",), ()), ("either", ("labels", ("state",), ()), EIGHTS)]:
            caught = self.assertUnchangedBy(group, RuleBroken, {"index": 3}, group.add_rule, rule)
            self.assertBreaks(caught, example_schema(), group.admitted(), rule)

    def test_the_reach_of_the_admitted_versions_counts(self):
        group = example_group()
        group.propose("ann", ("red", "open", 12))
        caught = self.assertUnchangedBy(group, RuleBroken, {"index": 1}, group.add_rule, ("counters", (1,), 2, 4))
        self.assertBreaks(caught, example_schema(), group.admitted(), ("counters", (1,), 2, 4))
        group.add_rule(EVEN)

    def test_values_that_are_no_rules(self):
        group = example_group()
        for rule in [None, True, "labels", list(PAIRS), ("counters", (1, 1), 0, 2), ("counters", (True,), 0, 2), {}, [], (),
                     ("labels", ("stock",), ()), ("either", PAIRS), [PAIRS], (PAIRS,), 7, ("counters", (1,), 0, -1)]:
            self.assertUnchangedBy(group, InvalidRule, {"rule": rule}, group.add_rule, rule)
        for rule in (Thing(), EqualToAll(), deep_list(), endless_list()):
            self.assertRaises(InvalidRule, group.add_rule, rule)

    def test_twenty_rules(self):
        group = Group(example_schema(), KNOWN, ["ann"], rules=[EVEN] * 18)
        group.add_rule(PAIRS)
        group.add_rule(EVEN)
        self.assertEqual(len(group.rules()), 20)
        for rule in (EVEN, EIGHTS):
            self.assertUnchangedBy(group, TooMany, {"limit": 20}, group.add_rule, rule)
        self.assertUnchangedBy(group, InvalidRule, {"rule": None}, group.add_rule, None)
        nineteen = Group(example_schema(), KNOWN, ["ann"], rules=[EVEN] * 19)
        self.assertUnchangedBy(nineteen, RuleBroken, {"index": 19}, nineteen.add_rule, EIGHTS)

    def test_by_name(self):
        group = example_group()
        group.add_rule(rule=EVEN)
        self.assertSame(group.rules(), [PAIRS, EVEN])


class Quotas(GroupCase):
    def test_example_of_the_document(self):
        group = example_group()
        self.assertSame(group.send("ann"), 0)
        self.assertSame([group.quota, group.message_count], [40, 1])

    def test_from_the_number_of_admitted_versions_to_forty(self):
        group = example_group()
        for limit in (2, 3, 39, 40, 2):
            self.assertIs(group.set_quota(limit), None)
            self.assertSame(group.quota, limit)
        for limit in NO_NUMBERS + [1, 0, -1, 41, 400, SIXTY, -SIXTY]:
            self.assertUnchangedBy(group, InvalidLimit, {"limit": limit}, group.set_quota, limit)
        group.set_quota(40)
        group.propose("ann", ("red", "open", 11))
        self.assertUnchangedBy(group, InvalidLimit, {"limit": 2}, group.set_quota, 2)
        group.set_quota(limit=3)
        self.assertSame(group.quota, 3)

    def test_they_are_properties(self):
        self.assertIsInstance(Group.quota, property)
        self.assertIsInstance(Group.message_count, property)
        self.assertRaises(AttributeError, setattr, example_group(), "quota", 7)

    def test_a_bool_is_no_quota(self):
        group = Group(example_schema(), [RED], ["ann"])
        self.assertUnchangedBy(group, InvalidLimit, {"limit": True}, group.set_quota, True)
        group.set_quota(1)


class Starts(GroupCase):
    def test_example_of_the_document(self):
        group = example_group()
        self.assertIs(group.propose("bob", ("red", "open", 11)), True)
        self.assertSame([len(group.admitted()), group.first_versions() == KNOWN, group.first_rules() == [PAIRS]],
                        [3, True, True])


class Messages(GroupCase):
    def test_examples_of_the_document(self):
        group = example_group()
        self.assertSame([group.announce(), group.send("ann"), group.announce()], [0, 1, 2])
        group = example_group()
        self.assertIs(group.propose("ann", ("red", "open", 11)), True)
        number = group.announce()
        self.assertSame([group.deliver(number, to="bob"), group.deliver(number, to="bob"), len(group.licence("bob"))],
                        [[("red", "open", 11)], [], 3])

    def test_what_a_message_contains(self):
        group = Group(example_schema(), KNOWN, ["ann", "bob", "cid"])
        group.create("ann", ("red", "open", 6))
        group.propose("ann", ("gray", "open", 10))
        group.create("ann", ("red", "open", 2))
        sent, told = group.send("ann"), group.announce()
        new = [("red", "open", 6), ("gray", "open", 10), ("red", "open", 2)]
        self.assertSame(group.deliver(told, to="cid"), [("gray", "open", 10)])
        self.assertSame([group.held("cid"), group.licence("cid")], [KNOWN + new[1:2]] * 2)
        self.assertSame(group.deliver(sent, to="bob"), new)
        self.assertSame([group.held("bob"), group.licence("bob")], [KNOWN + new, KNOWN + new[1:2]])
        self.assertSame(group.deliver(sent, to="cid"), [new[0], new[2]])
        self.assertSame(group.held("cid"), KNOWN + [new[1], new[0], new[2]])

    def test_a_message_is_as_it_was_when_it_was_stored(self):
        group = example_group()
        first, told = group.send("ann"), group.announce()
        group.create("ann", ("red", "open", 6))
        group.propose("ann", ("red", "open", 11))
        self.assertSame([group.deliver(first, to="bob"), group.deliver(told, to="bob")], [[], []])
        self.assertSame([group.held("bob"), group.licence("bob")], [KNOWN, KNOWN])

    def test_to_the_sender(self):
        group = example_group()
        group.propose("ann", ("red", "open", 11))
        number = group.send("ann")
        self.assertSame(group.deliver(number, to="ann"), [])
        group.create("ann", ("red", "open", 7))
        self.assertSame([group.deliver(number, to="ann"), group.held("ann")],
                        [[], KNOWN + [("red", "open", 11), ("red", "open", 7)]])

    def test_several_messages_in_any_sequence(self):
        for sequence in itertools.permutations(range(4)):
            group = example_group()
            for at in range(4):
                group.create("ann", ("red", "open", 10 + 4 * (at + 1)))
                group.send("ann")
            held = list(KNOWN)
            for number in sequence:
                wanted = [("red", "open", 10 + 4 * (at + 1)) for at in range(number + 1)]
                wanted = [version for version in wanted if version not in held]
                held += wanted
                self.assertSame(group.deliver(number, to="bob"), wanted)
                self.assertSame(group.deliver(number, to="bob"), [])
                self.assertSame(group.held("bob"), held)

    def test_a_licence_passed_on_by_others(self):
        group = Group(example_schema(), KNOWN, ["ann", "bob", "cid"])
        group.propose("ann", ("gray", "open", 10))
        group.deliver(group.send("ann"), to="bob")
        group.deliver(group.send("bob"), to="cid")
        self.assertSame(group.licence("cid"), KNOWN + [("gray", "open", 10)])
        group.create("cid", ("gray", "shut", 14))

    def test_held_outside_of_the_reach_of_the_own_licence(self):
        group = example_group()
        group.propose("ann", ("red", "open", 12))
        self.assertIs(group.propose("bob", ("red", "open", 16)), False)
        self.assertSame([group.held("bob"), group.licence("bob")], [KNOWN + [("red", "open", 16)], KNOWN])
        self.assertIs(Reach(example_schema(), group.licence("bob")).contains(("red", "open", 16)), False)
        self.assertSame(group.pick("bob", RED, ("red", "open", 16), RED), ("red", "open", 4))

    def test_by_name_and_by_position(self):
        group = example_group()
        self.assertSame(group.deliver(to="bob", number=group.send(name="ann")), [])
        self.assertRaises(TypeError, group.deliver, 0, "bob")
        self.assertRaises(TypeError, group.deliver, 0)


class Operations(GroupCase):
    def test_example_of_the_document(self):
        group = example_group()
        group.create("ann", ("blue", "shut", 18))
        copy = group.copied()
        self.assertSame([group.operations(), copy == group], [[("create", "ann", ("blue", "shut", 18))], True])

    def test_each_operation(self):
        group = example_group()
        group.create("ann", RED)
        group.pick("ann", RED, BLUE, RED)
        group.propose("bob", ("red", "open", 12))
        group.propose("bob", ("red", "open", 14))
        group.add_rule(EVEN)
        group.announce()
        group.send("ann")
        group.deliver(1, to="bob")
        group.deliver(1, to="bob")
        group.set_quota(40)
        group.set_quota(3)
        self.assertSame(group.operations(), [
            ("create", "ann", RED), ("pick", "ann", RED, BLUE, RED), ("propose", "bob", ("red", "open", 12)),
            ("propose", "bob", ("red", "open", 14)), ("add", EVEN), ("announce",), ("send", "ann"), ("deliver", 1, "bob"),
            ("deliver", 1, "bob"), ("quota", 40), ("quota", 3)])

    def test_calls_that_raise_errors_and_queries_are_no_operations(self):
        group = example_group()
        for method, args, named in [(group.create, ["ann", ("red", "shut", 10)], {}), (group.create, ["cid", RED], {}),
                                    (group.pick, ["ann", RED, RED, ("red", "open", 6)], {}), (group.send, ["cid"], {}),
                                    (group.propose, ["ann", ("gray", "held", 10)], {}), (group.add_rule, [EIGHTS], {}),
                                    (group.deliver, [0], {"to": "ann"}), (group.set_quota, [1], {})]:
            self.assertRaises(FAMILIES, method, *args, **named)
        for query in (group.schema, group.replicas, group.rules, group.admitted, group.first_versions, group.first_rules,
                      group.operations, group.copied):
            query()
        self.assertSame([group.held("ann"), group.licence("ann"), group.operations()], [KNOWN, KNOWN, []])


class Copies(GroupCase):
    def busy_group(self):
        group = example_group()
        group.propose("ann", ("red", "open", 12))
        group.create("ann", ("red", "open", 8))
        group.send("ann")
        group.announce()
        group.add_rule(EVEN)
        group.set_quota(5)
        return group

    def test_the_same_state(self):
        group = self.busy_group()
        copy = group.copied()
        self.assertIsInstance(copy, Group)
        self.assertIs(copy == group, True)
        self.assertSame(group_state(copy), group_state(group))
        self.assertSame([copy.first_versions(), copy.first_rules()], [KNOWN, [PAIRS]])
        self.assertSame([copy.deliver(0, to="bob"), copy.deliver(1, to="bob")],
                        [[("red", "open", 12), ("red", "open", 8)], []])

    def test_no_shared_state(self):
        changes = [lambda group: group.create("bob", ("red", "open", 6)), lambda group: group.pick("ann", RED, BLUE, RED),
                   lambda group: group.propose("bob", ("red", "open", 20)), lambda group: group.add_rule(PAIRS),
                   lambda group: group.announce(), lambda group: group.send("bob"), lambda group: group.set_quota(7),
                   lambda group: group.deliver(0, to="bob"), lambda group: group.deliver(1, to="bob")]
        for change in changes:
            group = self.busy_group()
            copy, wanted = group.copied(), group_state(group)
            change(copy)
            self.assertSame(group_state(group), wanted)
            self.assertFalse(same(group_state(copy), wanted))
            copy = group.copied()
            change(group)
            self.assertSame(group_state(copy), wanted)
            self.assertFalse(same(group_state(group), wanted))

    def test_groups_of_the_same_arguments_share_no_state(self):
        versions, names, rules = list(KNOWN), ["ann", "bob"], [PAIRS]
        one, other = [Group(example_schema(), versions, names, rules=rules) for _ in range(2)]
        one.create("ann", ("red", "open", 6))
        one.add_rule(EVEN)
        one.send("ann")
        self.assertSame(group_state(other), group_state(example_group()))
        self.assertSame([versions, names, rules], [KNOWN, ["ann", "bob"], [PAIRS]])


class AgainstTheModel(GroupCase):
    def outcome(self, target, word, args, named):
        """What the call returns, or its error with the fields that are not open."""
        try:
            return ["result", getattr(target, word)(*args, **named)]
        except Failure as failure:
            return ["error", failure.error.__name__, failure.fields]
        except FAMILIES as error:
            if isinstance(error, RuleBroken):
                versions = target.admitted() + (args[1:] if word == "propose" else [])
                rule = args[0] if word == "add_rule" else target.rules()[error.index]
                self.assertBreaks(error, target.schema(), versions, rule)
            fields = {name: value for name, value in vars(error).items() if name != "steps"}
            return ["error", type(error).__name__, fields]

    def guard(self, group):
        """Nothing outside of the reach of the admitted versions is held, and no rule is broken."""
        schema, reach = group.schema(), Reach(group.schema(), group.admitted())
        for name in group.replicas():
            for version in group.held(name):
                self.assertIs(reach.contains(version), True)
                self.assertTrue(all(satisfies(schema, version, rule) for rule in group.rules()))
            self.assertTrue(set(group.licence(name)) <= set(group.held(name)))
            self.assertTrue(set(group.licence(name)) <= set(group.admitted()))

    def test_random_calls(self):
        seen = set()
        for seed in range(60):
            source = random.Random(seed)
            schema, versions, names, rules = random_start(source)
            group, model = Group(schema, versions, names, rules=rules), Model(schema, versions, names, rules)
            for _ in range(40):
                word, args, named = random_call(source, model)
                found, wanted = self.outcome(group, word, args, named), self.outcome(model, word, args, named)
                self.assertSame(found, wanted)
                self.assertSame(group_state(group), model.state())
                seen.add((word, wanted[1] if wanted[0] == "error" else str(wanted[1])[:5] if word == "propose" else ""))
            self.guard(group)
            self.assertSame(group_state(group.copied()), model.state())
        for way in [("create", ""), ("create", "NotLicensed"), ("pick", ""), ("pick", "NotHeld"), ("propose", "True"),
                    ("propose", "False"), ("propose", "RuleBroken"), ("propose", "TooMany"), ("add_rule", ""),
                    ("add_rule", "RuleBroken"), ("announce", ""), ("send", ""), ("send", "UnknownReplica"), ("deliver", ""),
                    ("deliver", "UnknownMessage"), ("set_quota", ""), ("set_quota", "InvalidLimit")]:
            self.assertIn(way, seen)

    def test_two_hundred_changes(self):
        source = random.Random(99)
        rules = [PAIRS, EVEN]
        group, model = Group(example_schema(), KNOWN, ["ann", "bob", "cid"], rules=rules), None
        model = Model(example_schema(), KNOWN, ["ann", "bob", "cid"], rules)
        count = 0
        while count < 200:
            word, args, named = random_call(source, model)
            found = self.outcome(group, word, args, named)
            self.assertSame(found, self.outcome(model, word, args, named))
            count += found[0] == "result"
        self.assertSame(group_state(group), model.state())
        self.guard(group)


if __name__ == "__main__":
    unittest.main()

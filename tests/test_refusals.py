import itertools
import random
import unittest

from mergereach.errors import InvalidVersion
from mergereach.reach import Reach
from mergereach.refusals import is_refusal, refusal_of
from mergereach.schemas import Schema
from tests.support import (BLUE, LARGE, NO_NUMBERS, NO_STRINGS, NO_TUPLES, ONLY_COUNTERS, ONLY_LABELS, RED, SIXTY, Case,
                           EqualToAll, Thing, deep_list, defined_link, endless_list, example_schema, label_schema,
                           produced, random_cases, random_schema, random_version, small_cases, some_in_reach,
                           wrong_versions)

KNOWN = [RED, BLUE]
THREE = KNOWN + [("gray", "held", 10)]


def example_reach(known=KNOWN):
    return Reach(example_schema(), known)


def defined_refusal(reach, version, thing):
    """Whether a tuple of the form of a refusal is one, in the words of the document."""
    schema, known = reach.schema(), reach.versions()
    names = schema.names()
    word, *parts = thing
    if word == "value":
        place = names.index(parts[0])
        return schema.fields()[place][1] != "counter" and version[place] not in {row[place] for row in known}
    if word == "link":
        one, other = [names.index(part) for part in parts]
        if one >= other or "counter" in (schema.fields()[one][1], schema.fields()[other][1]):
            return False
        seen = all(version[place] in {row[place] for row in known} for place in (one, other))
        met = (version[one], version[other]) in {(row[one], row[other]) for row in known}
        return defined_link(schema, known, *parts) and seen and not met
    coefficients, modulus = parts
    counters = [place for place, (_, kind) in enumerate(schema.fields()) if kind == "counter"]

    def total(row):
        return sum(times * row[place] for times, place in zip(coefficients, counters))

    def differ(one, two):
        return one != two if modulus == 0 else (one - two) % modulus != 0

    # The sums of all vectors of the coset are the same exactly if those of the known versions are.
    same = not any(differ(total(row), total(known[0])) for row in known)
    return same and differ(total(version), total(known[0]))


def random_known(source, schema, most=4):
    return [random_version(source, schema) for _ in range(source.randint(1, most))]


class Refusals(Case):
    def check(self, reach, version):
        """Returns the kind of the refusal, or None; the refusal is right, and there is one unless there is a script."""
        found = refusal_of(reach, version)
        self.assertIs(found is None, reach.contains(version))
        if found is None:
            return None
        self.assertIsInstance(found, tuple)
        self.assertEqual(len(found), 2 if found[0] == "value" else 3)
        self.assertIs(is_refusal(reach, version, found), True)
        self.assertTrue(defined_refusal(reach, version, found))
        self.assertSame(refusal_of(reach, version), found)
        return found[0]

    def test_examples_of_the_document(self):
        reach = example_reach()
        self.assertSame([refusal_of(reach, ("red", "shut", 10)), refusal_of(reach, ("red", "open", 2))],
                        [("link", "color", "state"), None])
        self.assertSame([is_refusal(reach, ("gray", "open", 10), ("value", "color")),
                         is_refusal(reach, ("red", "open", 11), ("counters", (1,), 2))], [True, True])

    def test_because_of_a_value(self):
        for version in [("gray", "open", 10), ("red", "held", 10), ("gray", "held", 10)]:
            self.assertEqual(self.check(example_reach(), version), "value")
        self.assertSame(refusal_of(example_reach(), ("gray", "open", 10)), ("value", "color"))
        self.assertSame(refusal_of(example_reach(), ("red", "held", 14)), ("value", "state"))

    def test_because_of_a_link(self):
        self.assertSame(refusal_of(example_reach(), ("blue", "open", 14)), ("link", "color", "state"))
        self.assertIs(refusal_of(example_reach(THREE), ("blue", "open", 14)), None)
        reach = Reach(label_schema("theirs", "mine", "theirs"), [("x", "p", "s"), ("y", "p", "t"), ("y", "q", "t")])
        self.assertSame(refusal_of(reach, ("x", "q", "t")), ("link", "a", "c"))
        self.assertIs(refusal_of(reach, ("x", "q", "s")), None)

    def test_because_of_the_counters(self):
        for number in (11, 12, 13, 9, SIXTY):
            self.assertEqual(self.check(example_reach(), ("red", "open", number)), "counters")
        for number in (10, 14, -2, 10 + 4 * SIXTY):
            self.assertIs(self.check(example_reach(), ("red", "open", number)), None)
        reach = Reach(ONLY_COUNTERS, [(1, 2), (3, 6)])
        self.assertEqual(self.check(reach, (2, 5)), "counters")
        self.assertEqual(self.check(reach, (2, 4)), "counters")
        self.assertIs(self.check(reach, (5, 10)), None)

    def test_several_reasons(self):
        self.check(example_reach(), ("gray", "held", 11))
        self.check(example_reach(), ("red", "shut", 11))
        self.check(example_reach(), ("gray", "shut", 11))

    def test_all_versions_of_small_schemas(self):
        kinds = set()
        for schema, known in list(small_cases()) + list(random_cases(41, 60, 3)):
            reach = Reach(schema, known)
            inside = produced(schema, known)
            for version in itertools.product("xyzw", repeat=len(schema)):
                kind = self.check(reach, version)
                self.assertIs(kind is None, version in inside)
                kinds.add(kind)
        self.assertEqual(kinds, {None, "value", "link"})

    def test_random_versions(self):
        source = random.Random(42)
        kinds = []
        for _ in range(300):
            schema = random_schema(source)
            reach = Reach(schema, random_known(source, schema))
            kinds += [self.check(reach, version) for version in [random_version(source, schema),
                                                                 *some_in_reach(source, reach, 1)]]
        for kind in (None, "value", "link", "counters"):
            self.assertGreater(kinds.count(kind), 5)

    def test_great_counters(self):
        known = [("x",) * 12 + (SIXTY, 0, 5, SIXTY - 1), ("y",) * 12 + (0, SIXTY, SIXTY // 7, 3),
                 ("x",) * 12 + (8, 9, -SIXTY, 0)]
        reach = Reach(LARGE, known)
        for vector in [(0, 0, 0, 0), (SIXTY, SIXTY, SIXTY, SIXTY), (SIXTY, 0, 5, SIXTY), (7, 9, -SIXTY, 0)]:
            self.assertEqual(self.check(reach, ("x",) * 12 + vector), "counters")

    def test_values_that_are_no_versions(self):
        reach = example_reach()
        for version in wrong_versions():
            self.assertRaisesWith(InvalidVersion, {"version": version}, refusal_of, reach, version)
            self.assertRaisesWith(InvalidVersion, {"version": version}, is_refusal, reach, version, None)
            self.assertRaisesWith(InvalidVersion, {"version": version}, is_refusal, reach, version, ("value", "color"))
        for version in (deep_list(), endless_list()):
            self.assertRaises(InvalidVersion, refusal_of, reach, version)
            self.assertRaises(InvalidVersion, is_refusal, reach, version, version)

    def test_by_name(self):
        self.assertSame(refusal_of(reach=example_reach(), version=("red", "shut", 10)), ("link", "color", "state"))
        self.assertIs(is_refusal(reach=example_reach(), version=("red", "shut", 10), thing=("link", "color", "state")),
                      True)
        self.assertIs(is_refusal(thing=("value", "color"), version=RED, reach=example_reach()), False)


class Judging(Case):
    def test_every_tuple_of_the_form(self):
        source = random.Random(43)
        counts = {"value": 0, "link": 0, "counters": 0}
        for _ in range(300):
            schema = random_schema(source, 4, 2)
            reach = Reach(schema, random_known(source, schema, 3))
            version = random_version(source, schema)
            names, width = schema.names(), len(schema.counter_names())
            things = [("value", name) for name in names] + [("link", *pair) for pair in itertools.product(names, repeat=2)]
            things += [("counters", coefficients, modulus) for modulus in (0, 1, 2, 3, 6)
                       for coefficients in itertools.product((-1, 0, 1, 2), repeat=width)]
            for thing in things:
                wanted = defined_refusal(reach, version, thing)
                self.assertIs(is_refusal(reach, version, thing), wanted, (reach.versions(), version, thing))
                counts[thing[0]] += wanted
            right = [thing for thing in things if is_refusal(reach, version, thing)]
            if reach.contains(version):
                self.assertEqual(right, [])
        self.assertGreater(min(counts.values()), 15)

    def test_values(self):
        reach = example_reach()
        self.assertIs(is_refusal(reach, ("gray", "open", 10), ("value", "color")), True)
        self.assertIs(is_refusal(reach, ("gray", "open", 10), ("value", "state")), False)
        self.assertIs(is_refusal(reach, ("red", "open", 11), ("value", "stock")), False)
        self.assertIs(is_refusal(reach, ("gray", "open", 10), ("value", "size")), False)

    def test_links(self):
        reach = example_reach()
        version = ("red", "shut", 10)
        self.assertIs(is_refusal(reach, version, ("link", "color", "state")), True)
        for pair in [("state", "color"), ("color", "color"), ("state", "state"), ("color", "stock"), ("stock", "color"),
                     ("color", "size"), ("size", "state"), ("", "state")]:
            self.assertIs(is_refusal(reach, version, ("link", *pair)), False)
        # A value that is not seen, a known pair, and fields that are not linked.
        self.assertIs(is_refusal(reach, ("gray", "shut", 10), ("link", "color", "state")), False)
        self.assertIs(is_refusal(reach, ("red", "held", 10), ("link", "color", "state")), False)
        self.assertIs(is_refusal(reach, ("red", "open", 11), ("link", "color", "state")), False)
        self.assertIs(is_refusal(example_reach(THREE), version, ("link", "color", "state")), False)

    def test_fields_that_are_not_linked_and_never_met(self):
        reach = Reach(label_schema("mine", "mine"), [("x", "p"), ("y", "p"), ("x", "q")])
        self.assertIs(is_refusal(reach, ("y", "q"), ("link", "a", "b")), False)
        self.assertIs(reach.contains(("y", "q")), True)

    def test_counters(self):
        reach = example_reach()
        version = ("red", "open", 11)
        right = [((1,), 4), ((1,), 2), ((3,), 4), ((-1,), 4), ((2,), 8), ((SIXTY,), 4), ((5,), 2)]
        wrong = [((1,), 0), ((0,), 0), ((0,), 4), ((1,), 3), ((1,), 8), ((1,), 1), ((2,), 2), ((4,), 4), ((1,), -4),
                 ((), 4), ((1, 1), 4), ((1, 0), 4)]
        for functional, wanted in [(one, True) for one in right] + [(one, False) for one in wrong]:
            self.assertIs(is_refusal(reach, version, ("counters", *functional)), wanted, functional)
        self.assertIs(is_refusal(reach, ("red", "open", 14), ("counters", (1,), 4)), False)
        single = Reach(ONLY_COUNTERS, [(1, 2)])
        self.assertIs(is_refusal(single, (1, 3), ("counters", (0, 1), 0)), True)
        self.assertIs(is_refusal(single, (1, 3), ("counters", (1, 0), 0)), False)

    def test_without_counters(self):
        reach = Reach(ONLY_LABELS, [("x", "y")])
        for thing in [("counters", (), 0), ("counters", (), 3), ("counters", (1,), 0)]:
            self.assertIs(is_refusal(reach, ("x", "x"), thing), False)
        self.assertIs(is_refusal(reach, ("x", "x"), ("value", "b")), True)

    def test_things_that_are_no_refusals(self):
        reach = example_reach()
        # Everything is wrong with the one version, and all three kinds of refusals are right for one of the others.
        versions = [("gray", "held", 11), ("gray", "open", 10), ("red", "shut", 10), ("red", "open", 11), RED]
        things = NO_TUPLES + NO_STRINGS + [deep_list(), endless_list(), Thing(), EqualToAll(), (), ("value",), ("link",)]
        things += [("counters",), ["value", "color"], ["link", "color", "state"], ["counters", (1,), 4], ("Value", "color")]
        things += [("value", "color", "state"), ("value", "color", None), ("link", "color"), ("link", "color", "state", 4)]
        things += [("counters", (1,)), ("counters", (1,), 4, 0), ("counters", 1, 4), ("counters", [1], 4)]
        things += [("counters", ((1,), 4)), ("counters", "1", 4), ("counters", (True,), 4), ("counters", (1,), True)]
        things += [("counters", (1,), "4"), ("counters", (1,), (4,)), ("counters", ("1",), 4), ("counters", (None,), 4)]
        things += [("other", "color"), ("", "color"), (("value", "color"),), ("value", ("color",)), ("value", ["color"])]
        things += [("link", ("color", "state")), ("link", ["color"], "state"), ("labels", "color"), "value color"]
        things += [("value", thing) for thing in NO_STRINGS] + [(thing, "color") for thing in NO_STRINGS]
        things += [("link", thing, "state") for thing in NO_STRINGS] + [("link", "color", thing) for thing in NO_STRINGS]
        things += [(thing, "color", "state") for thing in NO_STRINGS] + [("counters", (1,), one) for one in NO_NUMBERS]
        things += [("counters", (one,), 4) for one in NO_NUMBERS] + [("counters", one, 4) for one in NO_TUPLES]
        things += [(one, (1,), 4) for one in NO_STRINGS + ["", "other", "Counters", "counters ", "value", "link"]]
        for version, thing in itertools.product(versions, things):
            self.assertIs(is_refusal(reach, version, thing), False)

    def test_nothing_changes(self):
        reach, version, thing = example_reach(), ("red", "open", 11), ["value", "color"]
        self.assertIs(is_refusal(reach, version, thing), False)
        refusal_of(reach, version)
        self.assertSame([reach.versions(), version, thing], [KNOWN, ("red", "open", 11), ["value", "color"]])

    def test_a_counter_between_labels(self):
        schema = Schema([("n", "counter"), ("a", "mine"), ("m", "counter"), ("b", "theirs")])
        reach = Reach(schema, [(1, "x", 2, "p"), (3, "y", 2, "q")])
        self.assertSame(refusal_of(reach, (1, "x", 2, "q")), ("link", "a", "b"))
        self.assertIs(is_refusal(reach, (2, "x", 2, "p"), ("counters", (1, 0), 2)), True)
        self.assertIs(is_refusal(reach, (1, "x", 3, "p"), ("counters", (0, 1), 0)), True)
        self.assertIs(is_refusal(reach, (1, "x", 3, "p"), ("counters", (1, 0), 2)), False)


if __name__ == "__main__":
    unittest.main()

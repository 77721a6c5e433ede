"""Values and checks that several test files use."""

import itertools
import unittest

from mergereach.schemas import Schema

FIELDS = [("color", "mine"), ("state", "theirs"), ("stock", "counter")]
RED = ("red", "open", 10)
BLUE = ("blue", "shut", 14)
SIXTY = int("9" * 60)
MIXED = Schema([("n", "counter"), ("a", "mine"), ("m", "counter"), ("b", "theirs")])
ONLY_LABELS = Schema([("a", "mine"), ("b", "theirs")])
ONLY_COUNTERS = Schema([("n", "counter"), ("m", "counter")])
LARGE = Schema([("f" + letter, "mine" if letter in "aceg" else "theirs") for letter in "abcdefghijkl"]
               + [("n" + letter, "counter") for letter in "abcd"])


class Thing:
    """An object of no kind that the package knows."""


class EqualToAll:
    """An object that claims to equal everything."""

    def __eq__(self, other):
        return True

    def __hash__(self):
        return 0


# None of these is a string, a list, a tuple, a dict or an integer.
OTHERS = [None, True, False, Thing(), EqualToAll(), object, len, b"red", {1, 2}, frozenset(), range(3), iter([])]
NO_STRINGS = OTHERS + [0, 1, -7, [], ["red"], (), ("red",), {}, {"red": 1}]
NO_LISTS = OTHERS + [0, 1, -7, "", "red", {}, {"color": "mine"}, {0: ("color", "mine")}]
NO_TUPLES = OTHERS + [0, 1, -7, "", "red", [], ["red", "open", 10], {}, {"color": "red"}]
NO_NUMBERS = OTHERS + ["", "7", "red", [], [7], (), (7,), {}, {7: 7}]
NO_DICTS = OTHERS + [0, 1, "", "red", [], ["color", "state", "stock"], (), RED, [("color", "red")]]
NO_NAMES = NO_STRINGS + ["", "Red", "rED", "re d", " red", "red ", "red\n", "\n", "r3d", "9", "-", "red,", "re_d",
                         "re-d", "a:b", "`", "{", "@", "[", "abcdefghi", "abcdefghijklmnopqrstuvwxyz"]
WRONG_LENGTHS = [(), ("red",), ("red", "open"), ("red", "open", 10, 11), ("red", "open", 10, "red"), (10,),
                 (("red", "open", 10),)]


def example_schema():
    return Schema(list(FIELDS))


def wrong_versions():
    """Values that are no versions of the example schema."""
    wrong = NO_TUPLES + WRONG_LENGTHS + [("open", 10, "red"), (10, "open", "red"), ("red", 10, "open")]
    for name in NO_NAMES:
        wrong += [(name, "open", 10), ("red", name, 10)]
    for number in NO_NUMBERS:
        wrong.append(("red", "open", number))
    return wrong


def defined_value(kind, ours, base, theirs):
    """The result of a pick for one field, in the words of the document."""
    if kind == "mine":
        return theirs if ours == base else ours
    if kind == "theirs":
        return ours if theirs == base else theirs
    return ours + theirs - base


def defined_pick(schema, ours, base, theirs):
    return tuple(defined_value(kind, *values) for (_, kind), *values in zip(schema.fields(), ours, base, theirs))


def produced(schema, known):
    """All versions that picks ever produce from versions without counters."""
    found = set(known)
    while True:
        results = {defined_pick(schema, *three) for three in itertools.product(found, repeat=3)}
        if results <= found:
            return found
        found |= results


def random_schema(source, most_labels=12, most_counters=4):
    kinds = [source.choice(["mine", "theirs"]) for _ in range(source.randint(0, most_labels))]
    kinds += ["counter"] * source.randint(0 if kinds else 1, most_counters)
    source.shuffle(kinds)
    return Schema([("abcdefghijklmnop"[at], kind) for at, kind in enumerate(kinds)])


def random_version(source, schema):
    return tuple(source.randint(-9, 9) if kind == "counter" else source.choice(["red", "blue", "gray"])
                 for _, kind in schema.fields())


def endless_list():
    """A list that contains itself."""
    endless = []
    endless.append(endless)
    return endless


def deep_list():
    """A list that is nested deeper than Python's recursion goes."""
    outer = []
    for _ in range(5000):
        outer = [outer]
    return outer


def same(one, other):
    """Whether two values are equal and have items of the same types, in the same order."""
    if type(one) is not type(other):
        return False
    if isinstance(one, (list, tuple)):
        return len(one) == len(other) and all(map(same, one, other))
    if isinstance(one, dict):
        return same(list(one.items()), list(other.items()))
    return one == other


class Case(unittest.TestCase):
    def assertSame(self, found, wanted):
        self.assertTrue(same(found, wanted), f"{found!r} is not the same as {wanted!r}")

    def assertRaisesWith(self, error, fields, function, *args, **named):
        """The call raises this very error with these fields."""
        with self.assertRaises(error) as caught:
            function(*args, **named)
        self.assertIs(type(caught.exception), error)
        for field, value in fields.items():
            self.assertSame(getattr(caught.exception, field), value)
        return caught.exception

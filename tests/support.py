"""Values and checks that several test files use."""

import itertools
import random
import unittest

from mergereach.schemas import Schema

FIELDS = [("color", "mine"), ("state", "theirs"), ("stock", "counter")]
RED = ("red", "open", 10)
BLUE = ("blue", "shut", 14)
SIXTY = int("9" * 60)
POLICIES = ("mine", "theirs")
MIXED = Schema([("n", "counter"), ("a", "mine"), ("m", "counter"), ("b", "theirs")])
ONLY_LABELS = Schema([("a", "mine"), ("b", "theirs")])
ONLY_COUNTERS = Schema([("n", "counter"), ("m", "counter")])
LARGE = Schema([("f" + letter, "mine" if letter in "aceg" else "theirs") for letter in "abcdefghijkl"]
               + [("n" + letter, "counter") for letter in "abcd"])


class Thing:
    """An object of no kind that the package knows."""


class EqualToAll:
    """An object that claims to equal everything."""

    def __eq__(self, other):
        return True

    def __hash__(self):
        return 0


# None of these is a string, a list, a tuple, a dict or an integer.
OTHERS = [None, True, False, Thing(), EqualToAll(), object, len, b"red", {1, 2}, frozenset(), range(3), iter([])]
NO_STRINGS = OTHERS + [0, 1, -7, [], ["red"], (), ("red",), {}, {"red": 1}]
NO_LISTS = OTHERS + [0, 1, -7, "", "red", {}, {"color": "mine"}, {0: ("color", "mine")}]
NO_TUPLES = OTHERS + [0, 1, -7, "", "red", [], ["red", "open", 10], {}, {"color": "red"}]
NO_NUMBERS = OTHERS + ["", "7", "red", [], [7], (), (7,), {}, {7: 7}]
NO_DICTS = OTHERS + [0, 1, "", "red", [], ["color", "state", "stock"], (), RED, [("color", "red")]]
NO_NAMES = NO_STRINGS + ["", "Red", "rED", "re d", " red", "red ", "red\n", "\n", "r3d", "9", "-", "red,", "re_d",
                         "re-d", "a:b", "`", "{", "@", "[", "abcdefghi", "abcdefghijklmnopqrstuvwxyz"]
WRONG_LENGTHS = [(), ("red",), ("red", "open"), ("red", "open", 10, 11), ("red", "open", 10, "red"), (10,),
                 (("red", "open", 10),)]


def example_schema():
    return Schema(list(FIELDS))


def wrong_versions():
    """Values that are no versions of the example schema."""
    wrong = NO_TUPLES + WRONG_LENGTHS + [("open", 10, "red"), (10, "open", "red"), ("red", 10, "open")]
    for name in NO_NAMES:
        wrong += [(name, "open", 10), ("red", name, 10)]
    for number in NO_NUMBERS:
        wrong.append(("red", "open", number))
    return wrong


def defined_value(kind, ours, base, theirs):
    """The result of a pick for one field, in the words of the document."""
    if kind == "mine":
        return theirs if ours == base else ours
    if kind == "theirs":
        return ours if theirs == base else theirs
    return ours + theirs - base


def defined_pick(schema, ours, base, theirs):
    return tuple(defined_value(kind, *values) for (_, kind), *values in zip(schema.fields(), ours, base, theirs))


def produced(schema, known):
    """All versions that picks ever produce from versions without counters."""
    found = set(known)
    while True:
        results = {defined_pick(schema, *three) for three in itertools.product(found, repeat=3)}
        if results <= found:
            return found
        found |= results


def label_schema(*policies):
    return Schema([("abcdefghijkl"[at], policy) for at, policy in enumerate(policies)])


def defined_link(schema, known, one, other):
    """Whether two label fields are linked, in the words of the document."""
    at, to = schema.names().index(one), schema.names().index(other)
    together = all((u[at] == v[at]) == (u[to] == v[to]) for u in known for v in known)
    few = max(len({version[place] for version in known}) for place in (at, to)) <= 2
    return together and (schema.kind(one) == schema.kind(other) or few)


def small_cases():
    """Schemas with two label fields of all policies, and all lists of up to three versions with up to three values."""
    versions = list(itertools.product("xyz", repeat=2))
    for policies in itertools.product(POLICIES, repeat=2):
        for count in (1, 2, 3):
            for known in itertools.combinations(versions, count):
                yield label_schema(*policies), list(known)


def random_cases(seed, count, most_fields=4):
    source = random.Random(seed)
    for _ in range(count):
        schema = label_schema(*[source.choice(POLICIES) for _ in range(source.randint(1, most_fields))])
        letters = "xyz"[:source.randint(1, 3)]
        known = [tuple(source.choice(letters) for _ in range(len(schema))) for _ in range(source.randint(1, 5))]
        # Copied columns, so that many fields are linked.
        if len(schema) > 1 and source.random() < 0.6:
            known = [(version[0],) + version[:-1] for version in known]
        yield schema, known


def random_schema(source, most_labels=12, most_counters=4):
    kinds = [source.choice(["mine", "theirs"]) for _ in range(source.randint(0, most_labels))]
    kinds += ["counter"] * source.randint(0 if kinds else 1, most_counters)
    source.shuffle(kinds)
    return Schema([("abcdefghijklmnop"[at], kind) for at, kind in enumerate(kinds)])


def random_version(source, schema):
    return tuple(source.randint(-9, 9) if kind == "counter" else source.choice(["red", "blue", "gray"])
                 for _, kind in schema.fields())


def joined(schema, labels, vector):
    """The version with these labels and this vector."""
    labels, vector = iter(labels), iter(vector)
    return tuple(next(vector if kind == "counter" else labels) for _, kind in schema.fields())


def some_in_reach(source, reach, count, great=9):
    """Versions with tuples of the blocks and vectors of the coset, chosen at random."""
    schema, known = reach.schema(), reach.versions()
    names = schema.names()
    counters = [place for place, (_, kind) in enumerate(schema.fields()) if kind == "counter"]
    found = []
    for _ in range(count):
        version = list(source.choice(known))
        for block in reach.blocks():
            row = source.choice(known)
            for name in block:
                version[names.index(name)] = row[names.index(name)]
        for one, other in itertools.pairwise(known[:6]):
            times = source.randint(-great, great)
            for place in counters:
                version[place] += times * (one[place] - other[place])
        found.append(tuple(version))
    return found


def satisfies_by_words(schema, version, rule):
    """Whether the version satisfies the rule, in the words of the document."""
    if rule[0] == "either":
        return any(satisfies_by_words(schema, version, part) for part in rule[1:])
    if rule[0] == "labels":
        return tuple(version[schema.names().index(name)] for name in rule[1]) in set(rule[2])
    counters = [version[place] for place, (_, kind) in enumerate(schema.fields()) if kind == "counter"]
    gap = sum(times * counter for times, counter in zip(rule[1], counters)) - rule[2]
    return gap == 0 if rule[3] == 0 else gap % rule[3] == 0


def random_rule(source, schema, known=()):
    """A rule of any kind; about half of those made for known versions are kept."""
    labels, counters = schema.label_names(), schema.counter_names()
    values = ["red", "blue", "gray"]
    fields = tuple(source.sample(labels, source.randint(1, min(2, len(labels))))) if labels else ()
    rows = [row for row in itertools.product(values, repeat=len(fields)) if source.random() < 0.9]
    rows = [row for row in rows if source.random() < 0.7] if not known else rows
    source.shuffle(rows)
    label_rule = ("labels", fields, tuple(rows))
    times = tuple(source.randint(-2, 2) for _ in counters)
    constant = source.randint(-3, 3)
    if known:
        place = [place for place, (_, kind) in enumerate(schema.fields()) if kind == "counter"]
        constant = sum(one * known[0][at] for one, at in zip(times, place))
    counter_rule = ("counters", times, constant, source.choice([0, 1, 2, 3]))
    if not labels:
        return counter_rule
    return source.choice([label_rule, counter_rule, ("either", label_rule, counter_rule)])


def endless_list():
    """A list that contains itself."""
    endless = []
    endless.append(endless)
    return endless


def deep_list():
    """A list that is nested deeper than Python's recursion goes."""
    outer = []
    for _ in range(5000):
        outer = [outer]
    return outer


def same(one, other):
    """Whether two values are equal and have items of the same types, in the same order."""
    if type(one) is not type(other):
        return False
    if isinstance(one, (list, tuple)):
        return len(one) == len(other) and all(map(same, one, other))
    if isinstance(one, dict):
        return same(list(one.items()), list(other.items()))
    return one == other


class Case(unittest.TestCase):
    def assertSame(self, found, wanted):
        self.assertTrue(same(found, wanted), f"{found!r} is not the same as {wanted!r}")

    def assertRaisesWith(self, error, fields, function, *args, **named):
        """The call raises this very error with these fields."""
        with self.assertRaises(error) as caught:
            function(*args, **named)
        self.assertIs(type(caught.exception), error)
        for field, value in fields.items():
            self.assertSame(getattr(caught.exception, field), value)
        return caught.exception

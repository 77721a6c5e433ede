"""A model of a group in the words of the document, and random operations on groups."""

from mergereach.errors import (InvalidLimit, InvalidRule, InvalidVersion, NotHeld, NotLicensed, RuleBroken, TooMany,
                               UnknownMessage, UnknownReplica)
from mergereach.reach import Reach
from mergereach.rules import is_kept, is_rule
from mergereach.schemas import Schema, is_version
from tests.support import defined_pick, random_rule, some_in_reach

FAMILIES = (InvalidLimit, InvalidRule, InvalidVersion, NotHeld, NotLicensed, RuleBroken, TooMany, UnknownMessage,
            UnknownReplica)


class Failure(Exception):
    """The error that the document promises, with its fields as far as they are not open."""

    def __init__(self, error, **fields):
        super().__init__(error.__name__)
        self.error = error
        self.fields = fields


class Model:
    """A group in the words of the document. Arguments are values of the right kinds."""

    def __init__(self, schema, versions, replicas, rules=()):
        self.schema = schema
        self.registrar = list(dict.fromkeys(versions))
        self.duties = list(rules)
        self.limit = 40
        self.held = {name: list(self.registrar) for name in replicas}
        self.licence = {name: list(self.registrar) for name in replicas}
        self.stored = []
        self.calls = []

    def state(self):
        return [self.registrar, self.duties, self.limit, self.held, self.licence, len(self.stored), self.calls]

    def replica(self, name):
        if name not in self.held:
            raise Failure(UnknownReplica, name=name)

    def version(self, version):
        if not is_version(self.schema, version):
            raise Failure(InvalidVersion, version=version)

    def reach(self, versions):
        return Reach(self.schema, versions)

    def hold(self, name, version):
        if version not in self.held[name]:
            self.held[name].append(version)

    def create(self, name, version):
        self.replica(name)
        self.version(version)
        if not self.reach(self.licence[name]).contains(version):
            raise Failure(NotLicensed, version=version)
        self.hold(name, version)
        self.calls.append(("create", name, version))

    def pick(self, name, ours, base, theirs):
        self.replica(name)
        for version in (ours, base, theirs):
            if version not in self.held[name]:
                raise Failure(NotHeld, version=version)
        result = defined_pick(self.schema, ours, base, theirs)
        self.hold(name, result)
        self.calls.append(("pick", name, ours, base, theirs))
        return result

    def propose(self, name, version):
        self.replica(name)
        self.version(version)
        new = not self.reach(self.registrar).contains(version)
        if new:
            for place, value in enumerate(version):
                values = {row[place] for row in self.registrar} | {value}
                if isinstance(value, str) and len(values) == 9:
                    raise Failure(TooMany, limit=8)
            if len(self.registrar) == self.limit:
                raise Failure(TooMany, limit=self.limit)
            for index, rule in enumerate(self.duties):
                if not is_kept(self.reach(self.registrar + [version]), rule):
                    raise Failure(RuleBroken, index=index)
            self.registrar.append(version)
            self.licence[name].append(version)
        self.hold(name, version)
        self.calls.append(("propose", name, version))
        return new

    def add_rule(self, rule):
        if not is_rule(self.schema, rule):
            raise Failure(InvalidRule, rule=rule)
        if len(self.duties) == 20:
            raise Failure(TooMany, limit=20)
        if not is_kept(self.reach(self.registrar), rule):
            raise Failure(RuleBroken, index=len(self.duties))
        self.duties.append(rule)
        self.calls.append(("add", rule))

    def announce(self):
        self.stored.append((list(self.registrar), list(self.registrar)))
        self.calls.append(("announce",))
        return len(self.stored) - 1

    def send(self, name):
        self.replica(name)
        self.stored.append((list(self.held[name]), list(self.licence[name])))
        self.calls.append(("send", name))
        return len(self.stored) - 1

    def deliver(self, number, *, to):
        if number not in range(len(self.stored)):
            raise Failure(UnknownMessage, number=number)
        self.replica(to)
        held, licence = self.stored[number]
        new = [version for version in held if version not in self.held[to]]
        self.held[to] += new
        self.licence[to] += [version for version in licence if version not in self.licence[to]]
        self.calls.append(("deliver", number, to))
        return new

    def set_quota(self, limit):
        if not len(self.registrar) <= limit <= 40:
            raise Failure(InvalidLimit, limit=limit)
        self.limit = limit
        self.calls.append(("quota", limit))


def group_state(group):
    """The state of a group in the form of a model's state."""
    names = group.replicas()
    return [group.admitted(), group.rules(), group.quota, {name: group.held(name) for name in names},
            {name: group.licence(name) for name in names}, group.message_count, group.operations()]


def random_start(source):
    """A schema, versions, replicas and rules of a group."""
    kinds = [source.choice(["mine", "theirs"]) for _ in range(source.randint(0, 3))]
    kinds += ["counter"] * source.randint(0 if kinds else 1, 2)
    source.shuffle(kinds)
    schema = Schema([("abcde"[at], kind) for at, kind in enumerate(kinds)])
    versions = [wide_version(source, schema) for _ in range(source.randint(1, 3))]
    names = ["ann", "bob", "cid", "dora", "eve", "fay"][:source.randint(1, 6)]
    rules = [random_rule(source, schema, versions) for _ in range(source.randint(0, 3))]
    return schema, versions, names, [rule for rule in rules if is_kept(Reach(schema, versions), rule)]


def wide_version(source, schema):
    labels = source.choice([["red", "blue"], ["red", "blue", "gray", "pink"]])
    return tuple(6 * source.randint(-3, 3) + source.choice([0, 0, 0, 2]) if kind == "counter" else source.choice(labels)
                 for _, kind in schema.fields())


def random_call(source, model):
    """The name of a method, its arguments and its keywords; some calls raise errors."""
    name = source.choice(list(model.held)) if source.random() < 0.95 else "nobody"
    held = model.held.get(name, model.registrar)
    word = source.choice(["create", "create", "pick", "pick", "pick", "propose", "propose", "add_rule", "announce",
                          "send", "deliver", "deliver", "deliver", "set_quota"])
    if word == "create":
        versions = some_in_reach(source, model.reach(model.licence.get(name, model.registrar)), 2)
        return word, [name, source.choice(versions + [wide_version(source, model.schema)])], {}
    if word == "pick":
        versions = [source.choice(held) for _ in range(3)]
        if source.random() < 0.1:
            versions[source.randrange(3)] = wide_version(source, model.schema)
        return word, [name, *versions], {}
    if word == "propose":
        versions = some_in_reach(source, model.reach(model.registrar), 1) + held
        return word, [name, source.choice(versions + [wide_version(source, model.schema)] * len(versions))], {}
    if word == "add_rule":
        return word, [random_rule(source, model.schema, model.registrar)], {}
    if word == "send":
        return word, [name], {}
    if word == "deliver":
        return word, [source.randint(0, len(model.stored))], {"to": name}
    if word == "set_quota":
        return word, [source.choice([40, len(model.registrar), len(model.registrar) - 1, len(model.registrar) + 1, 41])], {}
    return word, [], {}

"""Groups: replicas that work offline, and a registrar that admits a version only if no pick can break a rule."""

from mergereach.errors import (InvalidLimit, InvalidNames, InvalidRule, InvalidRules, NotHeld, NotLicensed, RuleBroken,
                               TooMany, UnknownMessage, UnknownReplica)
from mergereach.links import different
from mergereach.picks import picked
from mergereach.reach import Reach
from mergereach.rules import breaking_script, first_broken, is_kept, is_rule
from mergereach.schemas import (MOST_VALUES, MOST_VERSIONS, is_name, is_version, is_whole_number, known_versions,
                                labels_of)

MOST_REPLICAS = 6
MOST_RULES = 20


def check_names(replicas):
    """Raises InvalidNames if the value is not a list of replicas."""
    if not isinstance(replicas, (list, tuple)) or not 1 <= len(replicas) <= MOST_REPLICAS:
        raise InvalidNames(-1)
    for index, name in enumerate(replicas):
        if not is_name(name) or name in replicas[:index]:
            raise InvalidNames(index)


def check_rules(reach, rules):
    """Raises InvalidRules or RuleBroken if a group with this reach cannot have these rules."""
    if isinstance(rules, (list, tuple)) and len(rules) > MOST_RULES:
        raise InvalidRules(-1)
    index = first_broken(reach, rules)
    if index is not None:
        raise RuleBroken(index, breaking_script(reach, rules[index]))


def check_replica(group, name):
    """Raises UnknownReplica if the value is not a replica of the group."""
    # Only strings are compared: objects may claim to equal anything.
    if not isinstance(name, str) or name not in group.members:
        raise UnknownReplica(name)


def has_ninth_value(schema, versions):
    """Returns whether a label field has more values in these versions than known versions may have."""
    rows = [labels_of(schema, version) for version in versions]
    return any([len(different(column)) > MOST_VALUES for column in zip(*rows)])


def append_new(versions, more):
    """Appends the versions of more that are not there yet, and returns the list of these."""
    new = [version for version in more if version not in versions]
    versions.extend(new)
    return new


class Group:
    """Replicas with the versions that they hold, and the registrar's admitted versions and rules."""

    def __init__(self, schema, versions, replicas, *, rules=()):
        admitted = different(known_versions(schema, versions))
        check_names(replicas)
        check_rules(Reach(schema, admitted), rules)
        self.frame = schema
        self.members = tuple(replicas)
        self.starts = tuple(admitted)
        self.bonds = tuple(rules)
        self.entries = list(admitted)
        self.duties = list(rules)
        self.most = MOST_VERSIONS
        self.holdings = {name: list(admitted) for name in replicas}
        self.permits = {name: list(admitted) for name in replicas}
        self.messages = []
        self.history = []

    def __eq__(self, other):
        return (isinstance(other, Group) and self.frame == other.frame and self.members == other.members
                and self.duties == other.duties and self.entries == other.entries and self.most == other.most
                and self.holdings == other.holdings and self.permits == other.permits)

    def __len__(self):
        return len(self.entries)

    def schema(self):
        """Returns the schema."""
        return self.frame

    def replicas(self):
        """Returns the list of the replicas."""
        return list(self.members)

    def rules(self):
        """Returns the list of the rules."""
        return list(self.duties)

    def admitted(self):
        """Returns the list of the admitted versions."""
        return list(self.entries)

    @property
    def quota(self):
        """The greatest number of admitted versions."""
        return self.most

    @property
    def message_count(self):
        """The number of stored messages."""
        return len(self.messages)

    def set_quota(self, limit):
        """Changes the quota."""
        if not is_whole_number(limit) or not len(self.entries) <= limit <= MOST_VERSIONS:
            raise InvalidLimit(limit)
        self.most = limit
        self.history.append(("quota", limit))

    def first_versions(self):
        """Returns the list of the versions that were admitted at first."""
        return list(self.starts)

    def first_rules(self):
        """Returns the list of the rules that were given at first."""
        return list(self.bonds)

    def held(self, name):
        """Returns the list of the versions that the replica holds."""
        check_replica(self, name)
        return list(self.holdings[name])

    def licence(self, name):
        """Returns the list of the admitted versions that the replica knows."""
        check_replica(self, name)
        return list(self.permits[name])

    def create(self, name, version):
        """The replica creates a version in the reach of its licence."""
        check_replica(self, name)
        if not Reach(self.frame, self.permits[name]).contains(version):
            raise NotLicensed(version)
        append_new(self.holdings[name], [version])
        self.history.append(("create", name, version))

    def pick(self, name, ours, base, theirs):
        """The replica picks with three versions that it holds; returns the result."""
        check_replica(self, name)
        for version in (ours, base, theirs):
            if not is_version(self.frame, version) or version not in self.holdings[name]:
                raise NotHeld(version)
        result = picked(self.frame, ours, base, theirs)
        append_new(self.holdings[name], [result])
        self.history.append(("pick", name, ours, base, theirs))
        return result

    def propose(self, name, version):
        """The replica proposes the version; returns whether it was admitted, or else was in reach already."""
        check_replica(self, name)
        is_new = not Reach(self.frame, self.entries).contains(version)
        if is_new:
            wider = self.entries + [version]
            if has_ninth_value(self.frame, wider):
                raise TooMany(MOST_VALUES)
            if len(self.entries) >= self.most:
                raise TooMany(self.most)
            check_rules(Reach(self.frame, wider), self.duties)
            self.entries.append(version)
            append_new(self.permits[name], [version])
        append_new(self.holdings[name], [version])
        self.history.append(("propose", name, version))
        return is_new

    def add_rule(self, rule):
        """Adds the rule as the last one."""
        if not is_rule(self.frame, rule):
            raise InvalidRule(rule)
        if len(self.duties) >= MOST_RULES:
            raise TooMany(MOST_RULES)
        reach = Reach(self.frame, self.entries)
        if not is_kept(reach, rule):
            raise RuleBroken(len(self.duties), breaking_script(reach, rule))
        self.duties.append(rule)
        self.history.append(("add", rule))

    def announce(self):
        """Stores a message of the registrar and returns its number."""
        self.messages.append((tuple(self.entries), tuple(self.entries)))
        self.history.append(("announce",))
        return len(self.messages) - 1

    def send(self, name):
        """Stores a message of the replica and returns its number."""
        check_replica(self, name)
        self.messages.append((tuple(self.holdings[name]), tuple(self.permits[name])))
        self.history.append(("send", name))
        return len(self.messages) - 1

    def deliver(self, number, *, to):
        """Delivers the message to the replica; returns the list of the versions that it did not hold before."""
        if not is_whole_number(number) or not 0 <= number < len(self.messages):
            raise UnknownMessage(number)
        check_replica(self, to)
        held, licence = self.messages[number]
        append_new(self.permits[to], licence)
        self.history.append(("deliver", number, to))
        return append_new(self.holdings[to], held)

    def operations(self):
        """Returns the list of the calls that raised no error and may have changed the group."""
        return list(self.history)

    def copied(self):
        """Returns an independent group in the same state, with the same operations and messages."""
        twin = Group(self.frame, self.starts, self.members, rules=self.bonds)
        twin.entries = list(self.entries)
        twin.duties = list(self.duties)
        twin.most = self.most
        twin.holdings = {name: list(self.holdings[name]) for name in self.members}
        twin.permits = {name: list(self.permits[name]) for name in self.members}
        twin.messages = list(self.messages)
        twin.history = list(self.history)
        return twin

"""All errors of the package."""

KEPT_LEVELS = 5


def kept(value, levels=KEPT_LEVELS):
    """Returns an equal value that does not share its lists and dicts with the caller."""
    # The levels are limited because a caller may pass a list that contains itself.
    if levels == 0:
        return value
    if isinstance(value, list):
        return [kept(item, levels - 1) for item in value]
    if isinstance(value, tuple):
        return tuple([kept(item, levels - 1) for item in value])
    if isinstance(value, dict):
        return {key: kept(value[key], levels - 1) for key in value}
    return value


class MergeError(ValueError):
    """A value that is not valid."""


class InvalidSchema(MergeError):
    """Not a schema; the problem is "list", "field", "duplicate" or "many"."""

    def __init__(self, problem, index):
        super().__init__("not a schema")
        self.problem = kept(problem)
        self.index = kept(index)


class InvalidVersion(MergeError):
    """Not a version of the schema."""

    def __init__(self, version):
        super().__init__("not a version of the schema")
        self.version = kept(version)


class InvalidVersions(MergeError):
    """Not known versions of the schema."""

    def __init__(self, index):
        super().__init__("not known versions of the schema")
        self.index = kept(index)


class InvalidScript(MergeError):
    """Not a script for the known versions."""

    def __init__(self, index):
        super().__init__("not a script for these versions")
        self.index = kept(index)


class InvalidVectors(MergeError):
    """Not vectors of a coset."""

    def __init__(self, index):
        super().__init__("not vectors of equal length")
        self.index = kept(index)


class InvalidVector(MergeError):
    """Not a vector of the coset's width."""

    def __init__(self, vector):
        super().__init__("not a vector of this width")
        self.vector = kept(vector)


class InvalidRule(MergeError):
    """Not a rule of the schema."""

    def __init__(self, rule):
        super().__init__("not a rule of the schema")
        self.rule = kept(rule)


class InvalidRules(MergeError):
    """Not a list of rules of the schema."""

    def __init__(self, index):
        super().__init__("not a list of rules of the schema")
        self.index = kept(index)


class InvalidNames(MergeError):
    """Not a list of different names of replicas."""

    def __init__(self, index):
        super().__init__("not a list of names of replicas")
        self.index = kept(index)


class InvalidCount(MergeError):
    """Not the number of a round."""

    def __init__(self, count):
        super().__init__("not the number of a round")
        self.count = kept(count)


class InvalidLimit(MergeError):
    """Not a limit that is allowed here."""

    def __init__(self, limit):
        super().__init__("not a limit that is allowed here")
        self.limit = kept(limit)


class InvalidText(MergeError):
    """Not a text of the expected form; the line counts from 1, and is 0 without a text."""

    def __init__(self, line):
        super().__init__("not a text of this form")
        self.line = kept(line)


class InvalidCommand(MergeError):
    """Not a command of the console."""

    def __init__(self, command):
        super().__init__("not a command")
        self.command = kept(command)


class MissingError(LookupError):
    """Something that is asked for does not exist."""


class UnknownField(MissingError):
    """Not the name of such a field."""

    def __init__(self, field):
        super().__init__("not the name of such a field")
        self.field = kept(field)


class UnknownReplica(MissingError):
    """Not a replica of the group."""

    def __init__(self, name):
        super().__init__("not a replica of the group")
        self.name = kept(name)


class UnknownMessage(MissingError):
    """Not the number of a message of the group."""

    def __init__(self, number):
        super().__init__("not the number of a message")
        self.number = kept(number)


class NotHeld(MissingError):
    """Not a version that the replica holds."""

    def __init__(self, version):
        super().__init__("not a version that the replica holds")
        self.version = kept(version)


class ReachError(RuntimeError):
    """Something that the reach does not permit."""


class OutOfReach(ReachError):
    """The version is not in reach."""

    def __init__(self, version):
        super().__init__("not in reach")
        self.version = kept(version)


class NotLicensed(ReachError):
    """The version is not in the reach of the replica's licence."""

    def __init__(self, version):
        super().__init__("not in the reach of the licence")
        self.version = kept(version)


class RuleBroken(ReachError):
    """The steps lead to a version that breaks the rule with this index."""

    def __init__(self, index, steps):
        super().__init__("a rule can be broken")
        self.index = kept(index)
        self.steps = kept(steps)


class RuleKept(ReachError):
    """No script breaks the rule."""

    def __init__(self, rule):
        super().__init__("the rule is kept")
        self.rule = kept(rule)


class LimitError(ArithmeticError):
    """A limit is exceeded."""


class TooMany(LimitError):
    """More than the limit."""

    def __init__(self, limit):
        super().__init__("more than the limit")
        self.limit = kept(limit)

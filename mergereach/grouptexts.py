"""Texts of rules, of operations and of whole groups."""

from mergereach.errors import InvalidRule, InvalidText, LimitError, MergeError, MissingError, ReachError
from mergereach.groups import Group, check_names
from mergereach.numbertexts import is_number_text, number_of, number_text
from mergereach.rules import is_rule
from mergereach.schemas import Schema
from mergereach.versiontexts import read_value, read_version, value_text, version_text

# The first word of each operation, and of what kinds its parts are.
OPERATION_FORMS = (
    ("create", ("name", "version")),
    ("pick", ("name", "version", "version", "version")),
    ("propose", ("name", "version")),
    ("add", ("rule",)),
    ("announce", ()),
    ("send", ("name",)),
    ("deliver", ("number", "name")),
    ("quota", ("number",)),
)


def row_text(values):
    """Returns the texts of NAMES or integers with commas between them."""
    return ",".join([value_text(value) for value in values])


def words_of(rule):
    """Returns the list of the words of a rule's text."""
    if rule[0] == "labels":
        return ["labels", row_text(rule[1])] + [row_text(row) for row in rule[2]]
    if rule[0] == "counters":
        coefficients = row_text(rule[1]) if len(rule[1]) > 0 else "-"
        return ["counters", coefficients, number_text(rule[2]), number_text(rule[3])]
    return ["either"] + words_of(rule[1]) + ["|"] + words_of(rule[2])


def rule_text(schema, rule):
    """Returns the text of the rule."""
    if not is_rule(schema, rule):
        raise InvalidRule(rule)
    return " ".join(words_of(rule))


def row_of(word):
    """Returns the tuple of the values whose texts stand in the word, with commas between them."""
    return tuple([read_value(part) for part in word.split(",")])


def rule_of(words):
    """Returns the rule whose text has these words, or something that is no rule."""
    if words[:1] == ["labels"] and len(words) >= 2:
        return ("labels", row_of(words[1]), tuple([row_of(word) for word in words[2:]]))
    if words[:1] == ["counters"] and len(words) == 4:
        coefficients = () if words[1] == "-" else row_of(words[1])
        return ("counters", coefficients, read_value(words[2]), read_value(words[3]))
    return None


def either_of(words):
    """Returns the rule whose text has these words behind `either`, or something that is no rule."""
    if words.count("|") != 1:
        return None
    sign = words.index("|")
    return ("either", rule_of(words[:sign]), rule_of(words[sign + 1:]))


def read_rule(schema, text):
    """Returns the rule with this text."""
    if not isinstance(text, str):
        raise InvalidText(0)
    words = text.split(" ")
    rule = either_of(words[1:]) if words[0] == "either" else rule_of(words)
    if not is_rule(schema, rule):
        raise InvalidText(1)
    return rule


def is_count_text(text):
    """Returns whether the string is the decimal text of an integer that is at least 0."""
    return is_number_text(text) and not text.startswith("-")


def part_text(schema, kind, part):
    """Returns the text of a part of this kind."""
    if kind == "version":
        return version_text(schema, part)
    if kind == "rule":
        return rule_text(schema, part)
    return value_text(part)


def read_part(schema, kind, text):
    """Returns the part of this kind with this text."""
    if kind == "version":
        return read_version(schema, text)
    if kind == "rule":
        return read_rule(schema, text)
    if kind == "number":
        if not is_count_text(text):
            raise InvalidText(1)
        return number_of(text)
    return text


def kinds_of(forms, word):
    """Returns the kinds of the parts behind this first word, or None if no form has it."""
    for first, kinds in forms:
        if first == word:
            return kinds
    return None


def operation_text(schema, operation):
    """Returns the text of the operation."""
    word, *parts = operation
    kinds = kinds_of(OPERATION_FORMS, word)
    return " ".join([word] + [part_text(schema, kind, part) for kind, part in zip(kinds, parts)])


def read_form(schema, forms, line):
    """Returns the tuple of the first word of the line and of its parts, if the line has one of the forms."""
    if not isinstance(line, str):
        raise InvalidText(0)
    word, *texts = line.split(" ")
    kinds = kinds_of(forms, word)
    if kinds == ("rule",):
        texts = [" ".join(texts)]
    if kinds is None or len(kinds) != len(texts) or "" in texts or "\n" in line:
        raise InvalidText(1)
    return tuple([word] + [read_part(schema, kind, text) for kind, text in zip(kinds, texts)])


def perform(group, operation):
    """Performs the operation and returns what its method returns."""
    word, *parts = operation
    if word == "create":
        return group.create(parts[0], parts[1])
    if word == "pick":
        return group.pick(parts[0], parts[1], parts[2], parts[3])
    if word == "propose":
        return group.propose(parts[0], parts[1])
    if word == "add":
        return group.add_rule(parts[0])
    if word == "announce":
        return group.announce()
    if word == "send":
        return group.send(parts[0])
    if word == "deliver":
        return group.deliver(parts[0], to=parts[1])
    return group.set_quota(parts[0])


def group_text(group):
    """Returns the text of the group."""
    schema = group.schema()
    lines = ["schema " + schema.text(), "replicas " + " ".join(group.replicas())]
    lines += ["version " + version_text(schema, version) for version in group.first_versions()]
    lines += ["rule " + rule_text(schema, rule) for rule in group.first_rules()]
    lines += [operation_text(schema, operation) for operation in group.operations()]
    return "".join([line + "\n" for line in lines])


def check_word(word, wanted):
    """Raises InvalidText if a line begins with another word than it must."""
    if word != wanted:
        raise InvalidText(1)


class GroupReader:
    """What has been read of the text of a group, line by line."""

    def __init__(self):
        self.frame = None
        self.members = None
        self.made = None

    def take(self, line):
        """Reads the next line; raises an error if no text of a group goes on with it."""
        word, space, rest = line.partition(" ")
        if self.frame is None:
            check_word(word, "schema")
            self.frame = Schema.read(rest)
        elif self.members is None:
            check_word(word, "replicas")
            check_names(rest.split(" "))
            self.members = rest.split(" ")
        elif self.made is None:
            check_word(word, "version")
            self.made = Group(self.frame, [read_version(self.frame, rest)], self.members)
        elif len(self.made.operations()) == 0 and word in ("version", "rule"):
            self.take_start(word, rest)
        else:
            perform(self.made, read_form(self.frame, OPERATION_FORMS, line))

    def take_start(self, word, rest):
        """Reads one more version or rule that the group has at first."""
        versions = self.made.first_versions()
        rules = self.made.first_rules()
        if word == "rule":
            rules.append(read_rule(self.frame, rest))
        else:
            version = read_version(self.frame, rest)
            # All versions stand before the rules, and each one stands there once.
            if len(rules) > 0 or version in versions:
                raise InvalidText(1)
            versions.append(version)
        self.made = Group(self.frame, versions, self.members, rules=rules)


def read_group(text):
    """Returns the group with this text."""
    if not isinstance(text, str):
        raise InvalidText(0)
    *lines, rest = text.split("\n")
    reader = GroupReader()
    for number, line in enumerate(lines, start=1):
        try:
            reader.take(line)
        except (LimitError, MergeError, MissingError, ReachError):
            raise InvalidText(number) from None
    # A last line without a line feed has this number, too.
    if rest != "" or reader.made is None:
        raise InvalidText(len(lines) + 1)
    return reader.made

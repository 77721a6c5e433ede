"""A console: commands to a group and queries about it, as texts."""

from mergereach.errors import InvalidCommand, InvalidText
from mergereach.grouptexts import OPERATION_FORMS, kinds_of, perform, read_form, read_group, row_text, rule_text
from mergereach.numbertexts import number_text
from mergereach.picks import conflicts_of
from mergereach.reach import Reach
from mergereach.rules import is_kept
from mergereach.versiontexts import version_text

# The first word of each query, and of what kinds its parts are.
QUERY_FORMS = (
    ("held", ("name",)),
    ("licence", ("name",)),
    ("admitted", ()),
    ("rules", ()),
    ("blocks", ()),
    ("basis", ()),
    ("count", ()),
    ("reach", ("version",)),
    ("kept", ("rule",)),
    ("conflicts", ("version", "version", "version")),
)


def result_text(schema, result):
    """Returns the text of what a method of the group or a query returned."""
    if result is None:
        return "ok"
    if isinstance(result, bool):
        return "yes" if result else "no"
    if isinstance(result, int):
        return number_text(result)
    if isinstance(result, tuple):
        return version_text(schema, result)
    if isinstance(result, list):
        return " ".join([version_text(schema, version) for version in result])
    return result


def reach_result(reach, word, parts):
    """Returns the result of a query about the reach of the admitted versions."""
    if word == "blocks":
        return " ".join([row_text(block) for block in reach.blocks()])
    if word == "basis":
        return " ".join([row_text(vector) for vector in reach.coset().basis()])
    if word == "count":
        return reach.label_count()
    if word == "reach":
        return reach.contains(parts[0])
    return is_kept(reach, parts[0])


def query_result(group, query):
    """Returns the result of the query."""
    schema = group.schema()
    word, *parts = query
    if word == "held":
        return group.held(parts[0])
    if word == "licence":
        return group.licence(parts[0])
    if word == "admitted":
        return group.admitted()
    if word == "rules":
        return " ; ".join([rule_text(schema, rule) for rule in group.rules()])
    if word == "conflicts":
        return " ".join(conflicts_of(schema, parts[0], parts[1], parts[2]))
    return reach_result(Reach(schema, group.admitted()), word, parts)


def executed(group, command):
    """Executes the command and returns the text of its result."""
    schema = group.schema()
    try:
        parts = read_form(schema, OPERATION_FORMS + QUERY_FORMS, command)
    except InvalidText:
        raise InvalidCommand(command) from None
    if kinds_of(OPERATION_FORMS, parts[0]) is not None:
        return result_text(schema, perform(group, parts))
    return result_text(schema, query_result(group, parts))


class Console:
    """A group that is worked with by commands, and a log of the runs."""

    def __init__(self, text):
        self.inner = read_group(text)
        self.entries = []

    def execute(self, command):
        """Executes the command and returns its result."""
        return executed(self.inner, command)

    def run(self, commands):
        """Executes all commands and returns the list of their results; after an error, the group is as before."""
        if not isinstance(commands, (list, tuple)):
            raise InvalidCommand(commands)
        self.entries.append(("begin", len(commands)))
        # The commands work on a copy, which takes the place of the group only if none of them raises an error.
        trial = self.inner.copied()
        results = []
        done = 0
        try:
            for command in commands:
                results.append(executed(trial, command))
                done += 1
        finally:
            self.entries.append(("end", done))
        self.inner = trial
        return results

    def group(self):
        """Returns an independent copy of the group."""
        return self.inner.copied()

    def log(self):
        """Returns the list of the beginnings and ends of all runs."""
        return list(self.entries)


class Recorder(Console):
    """A console that also keeps a transcript."""

    def __init__(self, text):
        super().__init__(text)
        self.pairs = []

    def execute(self, command):
        """Executes the command and returns its result."""
        result = super().execute(command)
        self.pairs.append((command, result))
        return result

    def run(self, commands):
        """Executes all commands and returns the list of their results; after an error, the group is as before."""
        results = super().run(commands)
        self.pairs.extend(list(zip(commands, results)))
        return results

    def transcript(self):
        """Returns the list of the commands that returned a result, each one with its result."""
        return list(self.pairs)

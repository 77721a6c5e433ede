import random
import unittest

from mergereach.console import Console, Recorder
from mergereach.errors import (InvalidCommand, InvalidLimit, InvalidText, NotHeld, NotLicensed, RuleBroken, TooMany,
                               UnknownMessage, UnknownReplica)
from mergereach.groups import Group
from mergereach.grouptexts import group_text, read_group, rule_text
from mergereach.picks import conflicts_of
from mergereach.reach import Reach
from mergereach.rules import is_kept, satisfies
from mergereach.schemas import Schema
from mergereach.scripts import result_of
from mergereach.versiontexts import version_text
from tests.models import FAMILIES, Model, group_state, random_call, random_start
from tests.support import (BLUE, NO_LISTS, NO_STRINGS, RED, Case, deep_list, endless_list, example_schema, random_rule,
                           random_version)

TEXT = "schema color:mine stock:counter\nreplicas ann bob\nversion red,10\nversion blue,14\n"
WIDE = """schema color:mine n:counter state:theirs m:counter
replicas ann bob
version red,10,open,0
version blue,14,shut,6
rule counters 1,1 0 2
rule labels color,state red,open blue,shut
"""
NO_COMMANDS = ["", " ", "\n", "nonsense", "create", "create ann", "create ann red", "create ann red,14 red,14",
               "create ann 14,red", "create  ann red,14", " create ann red,14", "create ann red,14 ",
               "create ann red,14\n", "create ann red,014", "create ann Red,14", "create a\nn red,14",
               "Create ann red,14", "pick ann red,10 red,10", "pick ann red,10 red,10 red,10 red,10",
               "pick ann red,10 red,10 red", "pick red,10 red,10 red,10", "propose ann", "propose red,10",
               "propose ann red,10 red,10", "propose ann red,-0", "add", "add ", "add counters 1 0",
               "add counters 1,1 0 2", "add labels size red", "add  counters 1 0 2", "add counters 1 0 2 ",
               "announce ann", "announce ", " announce", "announce\n", "send", "send ann bob", "send  ann", "deliver",
               "deliver 0", "deliver 0 ann bob", "deliver ann 0", "deliver -1 ann", "deliver 00 ann",
               "deliver 01 ann", "deliver 0  ann", "deliver x ann", "quota", "quota 5 6", "quota -5", "quota 05",
               "quota five", "quota ", "quota +5", "quota -0", "held", "held ", "held ann bob", "held  ann",
               "held ann\n", "licence", "licence ann bob", "license ann", "admitted ann", "admitted ", "rules 1",
               "rules ", "blocks color", "basis 4", "count 2", "count ", "reach", "reach red", "reach red,10 red,10",
               "reach ann red,10", "reach red,1.0", "kept", "kept counters 1 0", "kept labels", "kept ",
               "kept counters 1 0 2 ", "conflicts", "conflicts red,10 red,10",
               "conflicts red,10 red,10 red,10 red,10", "conflicts red,10 red red,10", "schema color:mine",
               "replicas ann", "version red,10", "rule counters 1 0 2", "set_quota 5", "add_rule counters 1 0 2",
               "log", "run", "group", "operations"]


def same_call(source, group, model):
    """Makes the same random call of the group and of its model; returns its word and its result, or None after an error."""
    word, args, named = random_call(source, model)
    try:
        result = getattr(group, word)(*args, **named)
    except FAMILIES:
        return None
    getattr(model, word)(*args, **named)
    return word, result


def version_texts(schema, versions):
    return " ".join(version_text(schema, version) for version in versions)


class ConsoleCase(Case):
    def assertUnchangedBy(self, console, error, fields, command):
        """The command raises this error and leaves the console as it was."""
        before, log = group_state(console.group()), console.log()
        caught = self.assertRaisesWith(error, fields, console.execute, command)
        self.assertSame([group_state(console.group()), console.log()], [before, log])
        return caught


class Construction(ConsoleCase):
    def test_example_of_the_document(self):
        self.assertRaisesWith(InvalidText, {"line": 1}, Console, "schema color\n")

    def test_the_group_of_the_text(self):
        for kind in (Console, Recorder):
            console = kind(TEXT + "create ann red,14\nsend ann\n")
            self.assertSame([group_text(console.group()), console.log()], [TEXT + "create ann red,14\nsend ann\n", []])
            self.assertIs(console.group() == read_group(TEXT + "create ann red,14\n"), True)

    def test_values_that_are_no_texts(self):
        for kind in (Console, Recorder):
            for text in NO_STRINGS + [deep_list(), endless_list(), read_group(TEXT)]:
                self.assertRaisesWith(InvalidText, {"line": 0}, kind, text)
            for text, line in [("", 1), ("schema color:mine\n", 2), (TEXT[:-1], 4), (TEXT + "create ann gray,14\n", 5)]:
                self.assertRaisesWith(InvalidText, {"line": line}, kind, text)

    def test_by_name(self):
        self.assertSame(Console(text=TEXT).execute(command="count"), "2")
        self.assertSame(Recorder(text=TEXT).run(commands=["count"]), ["2"])


class Commands(ConsoleCase):
    def test_example_of_the_document(self):
        console = Console(TEXT)
        self.assertSame([console.execute("create ann red,14"), console.execute("pick ann red,14 red,10 blue,14"),
                         console.execute("held ann")], ["ok", "blue,18", "red,10 blue,14 red,14 blue,18"])

    def test_each_operation(self):
        console = Console(WIDE)
        wanted = [("create ann red,14,open,6", "ok"), ("create ann red,10,open,0", "ok"),
                  ("pick ann red,14,open,6 red,10,open,0 blue,14,shut,6", "blue,18,shut,12"),
                  ("propose bob red,12,open,0", "yes"), ("propose bob red,14,open,0", "no"), ("add counters 1,0 0 2", "ok"),
                  ("add either labels color | counters 0,1 0 3", "ok"), ("announce", "0"), ("send ann", "1"), ("send bob", "2"),
                  ("deliver 0 ann", "red,12,open,0"), ("deliver 0 ann", ""),
                  ("deliver 1 bob", "red,14,open,6 blue,18,shut,12"), ("quota 3", "ok"), ("quota 40", "ok")]
        for command, answer in wanted:
            self.assertSame(console.execute(command), answer)
        self.assertSame([operation[0] for operation in console.group().operations()],
                        [command.split(" ")[0] for command, _ in wanted])
        self.assertSame(group_text(console.group()), WIDE + "".join(command + "\n" for command, _ in wanted))

    def test_each_query(self):
        console = Console(WIDE)
        first = "red,10,open,0 blue,14,shut,6"
        for command, answer in [("held ann", first), ("licence bob", first), ("admitted", first), ("blocks", "color,state"),
                                ("rules", "counters 1,1 0 2 ; labels color,state red,open blue,shut"), ("basis", "4,6"),
                                ("count", "2"), ("reach red,14,open,6", "yes"), ("reach red,14,shut,6", "no"),
                                ("reach red,12,open,3", "no"), ("kept counters 1,0 2 4", "yes"), ("kept counters 1,0 2 8", "no"),
                                ("kept labels color red blue gray", "yes"), ("kept labels color red", "no"),
                                ("kept either labels color | counters 0,1 0 6", "yes"),
                                ("conflicts red,1,open,1 blue,2,shut,2 gray,3,open,3", "color"),
                                ("conflicts red,1,open,1 blue,2,shut,2 gray,3,held,3", "color state"),
                                ("conflicts red,1,open,1 red,2,open,2 gray,3,held,3", "")]:
            self.assertSame(console.execute(command), answer)
        self.assertSame([console.group().operations(), console.log()], [[], []])

    def test_answers_without_words(self):
        console = Console("schema n:counter\nreplicas ann\nversion 5\n")
        for command in ("rules", "blocks", "basis", "conflicts 1 2 3"):
            self.assertSame(console.execute(command), "")
        self.assertSame([console.execute("count"), console.execute("kept counters 1 5 0"), console.execute("reach 6")],
                        ["1", "yes", "no"])
        console = Console("schema a:mine b:theirs\nreplicas ann\nversion x,p\nversion y,q\nversion z,r\n")
        self.assertSame([console.execute(command) for command in ("count", "blocks", "basis", "kept counters - 0 0")],
                        ["9", "a b", "", "yes"])

    def test_several_basis_vectors(self):
        console = Console("schema n:counter m:counter\nreplicas ann\nversion 0,0\nversion 2,4\nversion 3,3\n")
        self.assertSame(console.execute("basis"), "1,5 0,6")

    def test_the_admitted_versions_count(self):
        console = Console(TEXT)
        console.execute("propose ann gray,12")
        self.assertSame([console.execute(command) for command in
                         ("admitted", "basis", "count", "reach gray,10", "licence ann", "licence bob", "held bob")],
                        ["red,10 blue,14 gray,12", "2", "3", "yes", "red,10 blue,14 gray,12", "red,10 blue,14",
                         "red,10 blue,14"])

    def test_great_counters(self):
        console = Console(TEXT)
        zeros = "0" * 4998
        self.assertSame(console.execute(f"create ann red,4{zeros}10"), "ok")
        self.assertSame(console.execute(f"pick ann red,4{zeros}10 red,10 red,4{zeros}10"), f"red,8{zeros}10")
        self.assertSame(console.execute("held ann"), f"red,10 blue,14 red,4{zeros}10 red,8{zeros}10")
        self.assertSame(console.execute(f"reach red,-4{zeros}02"), "yes")
        self.assertSame(console.execute(f"reach red,-4{zeros}01"), "no")

    def test_values_that_are_no_commands(self):
        console = Console(TEXT)
        console.execute("announce")
        for command in NO_COMMANDS + NO_STRINGS + [["count"], ("count",)]:
            self.assertUnchangedBy(console, InvalidCommand, {"command": command}, command)
        for command in (deep_list(), endless_list()):
            self.assertRaises(InvalidCommand, console.execute, command)

    def test_errors_of_the_group(self):
        console = Console(TEXT + "rule labels color red blue gray\nannounce\n")
        for command, error, fields in [
                ("create cid red,10", UnknownReplica, {"name": "cid"}), ("create Ann! red,10", UnknownReplica, {"name": "Ann!"}),
                ("create | red,10", UnknownReplica, {"name": "|"}), ("create ann gray,10", NotLicensed, {"version": ("gray", 10)}),
                ("pick cid red,10 red,10 red,10", UnknownReplica, {"name": "cid"}),
                ("pick ann red,10 red,11 red,12", NotHeld, {"version": ("red", 11)}),
                ("propose cid red,10", UnknownReplica, {"name": "cid"}), ("propose ann pink,10", RuleBroken, {"index": 0}),
                ("add counters 1 1 2", RuleBroken, {"index": 1}), ("send cid", UnknownReplica, {"name": "cid"}),
                ("deliver 1 ann", UnknownMessage, {"number": 1}), ("deliver 1 cid", UnknownMessage, {"number": 1}),
                ("deliver 0 cid", UnknownReplica, {"name": "cid"}), ("quota 1", InvalidLimit, {"limit": 1}),
                ("quota 0", InvalidLimit, {"limit": 0}), ("quota 41", InvalidLimit, {"limit": 41}),
                ("held cid", UnknownReplica, {"name": "cid"}), ("licence red,10", UnknownReplica, {"name": "red,10"})]:
            self.assertUnchangedBy(console, error, fields, command)
        console.execute("quota 2")
        self.assertUnchangedBy(console, TooMany, {"limit": 2}, "propose ann gray,10")

    def test_steps_of_a_broken_rule(self):
        console = Console(TEXT + "rule labels color red blue\n")
        caught = self.assertUnchangedBy(console, RuleBroken, {"index": 0}, "propose ann gray,10")
        group = console.group()
        result = result_of(group.schema(), group.admitted() + [("gray", 10)], caught.steps)
        self.assertIs(satisfies(group.schema(), result, group.rules()[0]), False)

    def test_wrong_texts_come_before_errors_of_the_group(self):
        console = Console(TEXT)
        for command in ("create cid red", "pick cid red,10 red,10 red", "propose cid 10", "deliver x cid"):
            self.assertUnchangedBy(console, InvalidCommand, {"command": command}, command)

    def test_repeated_queries(self):
        console = Console(WIDE)
        for command in ("held ann", "rules", "blocks", "basis", "count", "admitted"):
            self.assertSame(console.execute(command), console.execute(command))


class Runs(ConsoleCase):
    def test_examples_of_the_document(self):
        console = Console(TEXT)
        self.assertRaisesWith(NotLicensed, {"version": ("gray", 14)}, console.run, ["create ann red,14", "create bob gray,14"])
        console = Console(TEXT)
        answers = console.run(["blocks", "basis", "reach gray,10"])
        self.assertSame([answers, console.log(), len(console.group())],
                        [["color", "4", "no"], [("begin", 3), ("end", 3)], 2])

    def test_results_in_sequence(self):
        for commands in (["create ann red,14", "held ann", "count"], ("create ann red,14", "held ann", "count")):
            console = Console(TEXT)
            self.assertSame(console.run(commands), ["ok", "red,10 blue,14 red,14", "2"])
            self.assertSame(console.execute("held ann"), "red,10 blue,14 red,14")
            self.assertSame(console.log(), [("begin", 3), ("end", 3)])

    def test_no_commands(self):
        console = Console(TEXT)
        self.assertSame([console.run([]), console.run(()), console.log()], [[], [], [("begin", 0), ("end", 0)] * 2])

    def test_after_an_error_the_group_is_as_before(self):
        changes = ["create ann red,14", "pick ann red,14 red,10 blue,14", "propose ann gray,10", "add counters 1 0 2",
                   "announce", "send ann", "deliver 0 bob", "deliver 1 bob", "quota 5"]
        for kind in (Console, Recorder):
            for bad, error in [("create bob pink,14", NotLicensed), ("nonsense", InvalidCommand), (None, InvalidCommand),
                               ("held cid", UnknownReplica), ("deliver 9 ann", UnknownMessage), ("quota 1", InvalidLimit),
                               ("pick ann pink,1 red,10 red,10", NotHeld), ("add counters 1 1 2", RuleBroken)]:
                for count in range(len(changes) + 1):
                    console = kind(TEXT)
                    console.execute("create ann red,18")
                    before = group_state(console.group())
                    self.assertRaises(error, console.run, changes[:count] + [bad] + changes[count:])
                    self.assertSame(group_state(console.group()), before)
                    self.assertSame(console.log(), [("begin", len(changes) + 1), ("end", count)])
                    self.assertRaises(UnknownMessage, console.execute, "deliver 0 bob")
                    self.assertSame(console.execute("announce"), "0")

    def test_messages_of_earlier_commands_stay(self):
        console = Console(TEXT)
        console.execute("propose ann gray,10")
        console.execute("announce")
        self.assertRaises(InvalidCommand, console.run, ["send ann", "deliver 0 bob", "x"])
        self.assertSame([console.execute("held bob"), console.execute("deliver 0 bob")], ["red,10 blue,14", "gray,10"])

    def test_a_run_and_single_commands(self):
        for seed in range(30):
            source = random.Random(seed)
            schema, versions, names, rules = random_start(source)
            group = Group(schema, versions, names, rules=rules)
            text = group_text(group)
            model = Model(schema, versions, names, rules)
            commands = []
            while len(commands) < 50:
                if same_call(source, group, model) is not None:
                    commands.append(group_text(group).split("\n")[-2])
                    commands.append(source.choice(["count", "admitted", "rules", "basis", "blocks", "held " + names[0]]))
            one, other = Console(text), Console(text)
            answers = [one.execute(command) for command in commands]
            self.assertSame(other.run(commands), answers)
            self.assertSame(group_state(one.group()), group_state(group))
            self.assertSame(group_state(other.group()), group_state(group))
            self.assertSame([one.log(), other.log()], [[], [("begin", 50), ("end", 50)]])

    def test_values_that_are_no_lists(self):
        for kind in (Console, Recorder):
            console = kind(TEXT)
            console.run(["count"])
            for commands in NO_LISTS + ["count", {"count": 1}]:
                self.assertRaisesWith(InvalidCommand, {"command": commands}, console.run, commands)
            self.assertSame(console.log(), [("begin", 1), ("end", 1)])

    def test_items_that_are_no_commands(self):
        console = Console(TEXT)
        for command in NO_COMMANDS + NO_STRINGS:
            self.assertRaisesWith(InvalidCommand, {"command": command}, console.run, ["count", command, None])
            self.assertSame(console.log()[-2:], [("begin", 3), ("end", 1)])

    def test_the_list_does_not_change(self):
        commands = ["count", "create ann red,14"]
        Console(TEXT).run(commands)
        Recorder(TEXT).run(commands)
        self.assertSame(commands, ["count", "create ann red,14"])


class Logs(ConsoleCase):
    def test_several_runs(self):
        console = Console(TEXT)
        console.execute("count")
        console.run(["count", "basis"])
        self.assertRaises(InvalidCommand, console.run, ["count", "x", "count"])
        self.assertRaises(InvalidCommand, console.run, ["x"])
        self.assertRaises(InvalidCommand, console.execute, "x")
        console.run([])
        self.assertSame(console.log(), [("begin", 2), ("end", 2), ("begin", 3), ("end", 1), ("begin", 1), ("end", 0),
                                        ("begin", 0), ("end", 0)])

    def test_returned_lists_belong_to_the_caller(self):
        console = Recorder(TEXT)
        results = console.run(["count"])
        for found in (results, console.log(), console.transcript()):
            found.append(None)
        self.assertSame([console.log(), console.transcript()], [[("begin", 1), ("end", 1)], [("count", "2")]])

    def test_the_group_is_a_copy(self):
        console = Console(TEXT)
        group = console.group()
        self.assertIsInstance(group, Group)
        group.create("ann", ("red", 14))
        group.send("ann")
        self.assertSame([console.execute("held ann"), console.execute("announce")], ["red,10 blue,14", "0"])
        console.execute("create bob red,18")
        self.assertSame([group.held("bob"), len(group.operations())], [[("red", 10), ("blue", 14)], 2])
        one, other = Console(TEXT), Console(TEXT)
        one.run(["create ann red,14"])
        self.assertSame([other.execute("held ann"), other.log()], ["red,10 blue,14", []])

    def test_the_group_has_messages_and_operations(self):
        console = Console(TEXT)
        console.run(["propose ann gray,10", "send ann", "quota 7"])
        group = console.group()
        self.assertSame([group.message_count, group.quota, len(group.operations())], [1, 7, 3])
        self.assertSame(group.deliver(0, to="bob"), [("gray", 10)])


class Recorders(ConsoleCase):
    def test_example_of_the_document(self):
        recorder = Recorder(TEXT)
        answers = [recorder.execute("count"), recorder.run(["basis"])]
        self.assertSame([answers, recorder.transcript(), isinstance(recorder, Console)],
                        [["2", ["4"]], [("count", "2"), ("basis", "4")], True])

    def test_commands_that_returned_a_result(self):
        recorder = Recorder(TEXT)
        self.assertSame(recorder.transcript(), [])
        recorder.execute("create ann red,14")
        self.assertRaises(NotLicensed, recorder.execute, "create ann gray,14")
        self.assertRaises(InvalidCommand, recorder.execute, "x")
        self.assertRaises(NotLicensed, recorder.run, ["count", "create ann red,18", "create ann gray,14"])
        self.assertRaises(InvalidCommand, recorder.run, None)
        self.assertSame(recorder.run(("held ann", "announce")), ["red,10 blue,14 red,14", "0"])
        recorder.run([])
        recorder.execute("count")
        self.assertSame(recorder.transcript(), [("create ann red,14", "ok"), ("held ann", "red,10 blue,14 red,14"),
                                                ("announce", "0"), ("count", "2")])
        self.assertSame(recorder.log(), [("begin", 3), ("end", 2), ("begin", 2), ("end", 2), ("begin", 0), ("end", 0)])

    def test_the_same_as_a_console(self):
        console, recorder = Console(TEXT), Recorder(TEXT)
        for command in ["create ann red,14", "count", "x", "create ann gray,14", "held ann", "announce", "deliver 0 bob", None]:
            outcomes = []
            for one in (console, recorder):
                try:
                    outcomes.append(one.execute(command))
                except (*FAMILIES, InvalidCommand) as error:
                    outcomes.append((type(error).__name__, vars(error)))
            self.assertSame(outcomes[0], outcomes[1])
        self.assertSame(group_state(console.group()), group_state(recorder.group()))

    def test_later_changes_to_the_list_of_commands(self):
        recorder, commands = Recorder(TEXT), ["count", "basis"]
        recorder.run(commands)
        commands.clear()
        self.assertSame(recorder.transcript(), [("count", "2"), ("basis", "4")])


class AgainstAGroup(ConsoleCase):
    def answer(self, schema, word, result):
        if word in ("create", "add_rule", "set_quota"):
            self.assertIsNone(result)
            return "ok"
        if word == "propose":
            return "yes" if result else "no"
        if word == "pick":
            return version_text(schema, result)
        return version_texts(schema, result) if word == "deliver" else str(result)

    def test_the_same_operations(self):
        for seed in range(40):
            source = random.Random(1000 + seed)
            schema, versions, names, rules = random_start(source)
            group = Group(schema, versions, names, rules=rules)
            model = Model(schema, versions, names, rules)
            console = Console(group_text(group))
            for _ in range(25):
                done = same_call(source, group, model)
                if done is not None:
                    command = group_text(group).split("\n")[-2]
                    self.assertSame(console.execute(command), self.answer(schema, *done))
                    self.queries(source, console, group)
            self.assertSame(group_state(console.group()), group_state(group))
            self.assertIs(console.group() == group, True)
            self.assertSame(group_text(console.group()), group_text(group))

    def queries(self, source, console, group):
        schema, reach = group.schema(), Reach(group.schema(), group.admitted())
        name = source.choice(group.replicas())
        self.assertSame(console.execute("held " + name), version_texts(schema, group.held(name)))
        self.assertSame(console.execute("licence " + name), version_texts(schema, group.licence(name)))
        self.assertSame(console.execute("admitted"), version_texts(schema, group.admitted()))
        self.assertSame(console.execute("count"), str(reach.label_count()))
        self.assertSame(console.execute("blocks"), " ".join(",".join(block) for block in reach.blocks()))
        self.assertSame(console.execute("basis"), " ".join(",".join(map(str, row)) for row in reach.coset().basis()))
        version = random_version(source, schema)
        self.assertSame(console.execute("reach " + version_text(schema, version)),
                        "yes" if reach.contains(version) else "no")
        rule = random_rule(source, schema, group.admitted())
        self.assertSame(console.execute("kept " + rule_text(schema, rule)), "yes" if is_kept(reach, rule) else "no")
        three = [random_version(source, schema) for _ in range(3)]
        self.assertSame(console.execute("conflicts " + version_texts(schema, three)), " ".join(conflicts_of(schema, *three)))

    def test_versions_of_the_example_schema(self):
        schema = example_schema()
        console = Console(group_text(Group(schema, [RED, BLUE], ["ann"])))
        self.assertSame(console.execute("admitted"), version_texts(schema, [RED, BLUE]))
        self.assertIsInstance(console.group().schema(), Schema)


if __name__ == "__main__":
    unittest.main()

import random
import unittest

from mergereach.errors import InvalidRule, InvalidText
from mergereach.groups import Group
from mergereach.grouptexts import group_text, read_group, read_rule, rule_text
from mergereach.rules import is_rule
from mergereach.schemas import Schema
from mergereach.versiontexts import version_text
from tests.models import FAMILIES, Model, group_state, random_call, random_start
from tests.support import (BLUE, LARGE, NO_STRINGS, ONLY_COUNTERS, ONLY_LABELS, RED, SIXTY, Case, EqualToAll, Thing,
                           deep_list, endless_list, example_schema, random_rule, random_schema)

TEXT = "schema color:mine stock:counter\nreplicas ann bob\nversion red,10\nversion blue,14\n"
SMALL = Schema([("color", "mine"), ("stock", "counter")])
PAIRS = ("labels", ("color", "state"), (("red", "open"), ("blue", "shut")))
EVEN = ("counters", (1,), 0, 2)
# A text with every kind of line.
LONG = TEXT + """rule counters 1 0 2
rule labels color red blue gray
create ann red,14
pick ann red,14 red,10 blue,14
propose bob gray,10
propose bob gray,14
add either labels color red | counters 1 2 4
announce
send ann
deliver 0 bob
deliver 1 bob
quota 3
"""
# Pairs of a rule of the example schema and its text.
RULES = [
    (PAIRS, "labels color,state red,open blue,shut"),
    (("labels", ("state",), ()), "labels state"),
    (("labels", ("state", "color"), (("open", "abcdefgh"),)), "labels state,color open,abcdefgh"),
    (EVEN, "counters 1 0 2"),
    (("counters", (-7,), -SIXTY, SIXTY), f"counters -7 -{SIXTY} {SIXTY}"),
    (("counters", (0,), 0, 0), "counters 0 0 0"),
    (("either", PAIRS, EVEN), "either labels color,state red,open blue,shut | counters 1 0 2"),
    (("either", ("labels", ("color",), ()), ("counters", (3,), -2, 4)), "either labels color | counters 3 -2 4"),
]


class RuleTexts(Case):
    def test_examples_of_the_document(self):
        self.assertSame([rule_text(SMALL, ("counters", (1,), -2, 4)),
                         read_rule(SMALL, "either labels color red blue | counters 1 0 0")],
                        ["counters 1 -2 4",
                         ("either", ("labels", ("color",), (("red",), ("blue",))), ("counters", (1,), 0, 0))])

    def test_there_and_back(self):
        for rule, text in RULES:
            self.assertSame(rule_text(example_schema(), rule), text)
            self.assertSame(read_rule(example_schema(), text), rule)

    def test_no_counters_and_several(self):
        for schema, rule, text in [(ONLY_LABELS, ("counters", (), 3, 0), "counters - 3 0"),
                                   (ONLY_COUNTERS, ("counters", (1, -2), 3, 4), "counters 1,-2 3 4"),
                                   (LARGE, ("counters", (0, 10, -5, 7), -1, 0), "counters 0,10,-5,7 -1 0"),
                                   (ONLY_LABELS, ("either", ("labels", ("b", "a"), (("x", "y"),)), ("counters", (), 0, 1)),
                                    "either labels b,a x,y | counters - 0 1")]:
            self.assertSame(rule_text(schema, rule), text)
            self.assertSame(read_rule(schema, text), rule)

    def test_random_rules(self):
        source = random.Random(71)
        for _ in range(200):
            schema = random_schema(source)
            rule = random_rule(source, schema)
            self.assertSame(read_rule(schema, rule_text(schema, rule)), rule)

    def test_numbers_of_very_many_digits(self):
        rule = ("counters", (10 ** 5000,), -(10 ** 5000), 10 ** 5000)
        text = f"counters 1{'0' * 5000} -1{'0' * 5000} 1{'0' * 5000}"
        self.assertSame(rule_text(SMALL, rule), text)
        self.assertTrue(read_rule(SMALL, text) == rule)

    def test_values_that_are_no_rules(self):
        for rule in [None, True, 7, "counters 1 0 2", list(EVEN), (), {}, ("counters", (1, 1), 0, 2), ("labels", ("n",), ()),
                     ("counters", (True,), 0, 2), ("counters", (1,), 0, -2), ("either", EVEN, PAIRS)]:
            self.assertRaisesWith(InvalidRule, {"rule": rule}, rule_text, example_schema(), rule)
        for rule in (Thing(), EqualToAll(), deep_list(), endless_list()):
            self.assertRaises(InvalidRule, rule_text, example_schema(), rule)

    def test_values_that_are_no_strings(self):
        for text in NO_STRINGS + [PAIRS, deep_list(), endless_list()]:
            self.assertRaisesWith(InvalidText, {"line": 0}, read_rule, example_schema(), text)

    def test_texts_that_are_no_rules(self):
        wrong = ["", " ", "\n", "labels", "labels ", "labels color ", "labels  color", " labels color",
                 "labels color  red", "Labels color red", "label color red", "labels color red\n",
                 "labels color\nred", "labels color,color red,red", "labels color,state red", "labels color red,open",
                 "labels color red red", "labels stock red", "labels size red", "labels color Red",
                 "labels color red, blue", "labels color,state red, open", "labels color abcdefghi",
                 "labels color 12", "labels 12 red", "labels - red", "labels color -", "labels color, red,",
                 "labels ,color red", "labels color |", "labels color red | counters 1 0 2", "counters", "counters 1",
                 "counters 1 0", "counters 1 0 2 3", "counters - 0 2", "counters  0 2", "counters 1 0 -2",
                 "counters 1 0 02", "counters 01 0 2", "counters 1 -0 2", "counters 1,1 0 2", "counters 1, 0 2",
                 "counters +1 0 2", "counters 1 0 2 ", " counters 1 0 2", "counters 1 a 2", "counters a 0 2",
                 "counters 1 0 b", "counters 1 0 -", "counters 1 - 2", "counters 1.0 0 2", "counters 1_0 0 2",
                 "counters 1 0x1 2", "counter 1 0 2", "either", "either ", "either |", "either | |", "| x | y",
                 "either | counters 1 0 2", "either labels color", "either labels color |", "either labels color | ",
                 "either counters 1 0 2 | labels color", "either labels color | labels color",
                 "either counters 1 0 2 | counters 1 0 2", "either labels color red counters 1 0 2",
                 "either labels color red | counters 1 0 2 |", "either labels color red | | counters 1 0 2",
                 "either labels color red|counters 1 0 2", "either labels color red |  counters 1 0 2",
                 "either either labels color | counters 1 0 2 | counters 1 0 2", "either | x | y",
                 "either labels | counters 1 0 2", "either labels color | counters 1 0",
                 "either  labels color | counters 1 0 2", "or labels color", "5", "-"]
        for text in wrong:
            self.assertRaisesWith(InvalidText, {"line": 1}, read_rule, example_schema(), text)
        for text in ("counters 1 0 2", "counters 0 0", "counters", "labels c x", "counters -  0 0"):
            self.assertRaisesWith(InvalidText, {"line": 1}, read_rule, ONLY_LABELS, text)

    def test_texts_that_are_changed_a_little(self):
        source = random.Random(72)
        schema = example_schema()
        for _ in range(3000):
            text = source.choice(RULES)[1]
            at = source.randrange(len(text) + 1)
            text = text[:at] + source.choice(["", source.choice("a ,|-0\n1")]) + text[at + source.randint(0, 1):]
            try:
                rule = read_rule(schema, text)
            except InvalidText as error:
                self.assertEqual(error.line, 1)
            else:
                self.assertIs(is_rule(schema, rule), True)
                self.assertSame(rule_text(schema, rule), text)

    def test_by_name(self):
        self.assertSame(rule_text(rule=EVEN, schema=SMALL), "counters 1 0 2")
        self.assertSame(read_rule(text="counters 1 0 2", schema=SMALL), EVEN)


class GroupTexts(Case):
    def test_examples_of_the_document(self):
        group = read_group(TEXT)
        group.create("ann", ("red", 14))
        self.assertIs(group_text(group) == TEXT + "create ann red,14\n", True)
        self.assertRaisesWith(InvalidText, {"line": 5}, read_group, TEXT + "create ann gray,14\n")

    def test_the_text_of_a_new_group(self):
        group = Group(SMALL, [("red", 10), ("blue", 14), ("red", 10)], ["ann", "bob"])
        self.assertSame(group_text(group), TEXT)
        group = Group(example_schema(), [RED, BLUE, RED], ["bob"], rules=[PAIRS, EVEN])
        self.assertSame(group_text(group), "schema color:mine state:theirs stock:counter\nreplicas bob\n"
                        "version red,open,10\nversion blue,shut,14\nrule labels color,state red,open blue,shut\n"
                        "rule counters 1 0 2\n")

    def test_each_operation(self):
        group = read_group(LONG)
        self.assertSame(group_text(group), LONG)
        self.assertSame(group.operations(), [
            ("create", "ann", ("red", 14)), ("pick", "ann", ("red", 14), ("red", 10), ("blue", 14)),
            ("propose", "bob", ("gray", 10)), ("propose", "bob", ("gray", 14)),
            ("add", ("either", ("labels", ("color",), (("red",),)), ("counters", (1,), 2, 4))), ("announce",), ("send", "ann"),
            ("deliver", 0, "bob"), ("deliver", 1, "bob"), ("quota", 3)])
        self.assertSame(group.first_rules(), [("counters", (1,), 0, 2), ("labels", ("color",), (("red",), ("blue",), ("gray",)))])
        self.assertSame([group.held("bob"), group.licence("bob"), group.quota],
                        [[("red", 10), ("blue", 14), ("gray", 10), ("gray", 14), ("red", 14), ("blue", 18)],
                         [("red", 10), ("blue", 14), ("gray", 10)], 3])

    def test_random_groups(self):
        for seed in range(40):
            source = random.Random(seed)
            schema, versions, names, rules = random_start(source)
            group, model = Group(schema, versions, names, rules=rules), Model(schema, versions, names, rules)
            for _ in range(30):
                word, args, named = random_call(source, model)
                try:
                    getattr(group, word)(*args, **named)
                except FAMILIES:
                    continue
                getattr(model, word)(*args, **named)
            text = group_text(group)
            again = read_group(text)
            self.assertSame(group_text(again), text)
            self.assertIs(again == group, True)
            self.assertSame(group_state(again), group_state(group))
            self.assertSame([again.first_versions(), again.first_rules()], [group.first_versions(), group.first_rules()])
            for number in range(group.message_count):
                for name in names:
                    self.assertSame(again.deliver(number, to=name), group.deliver(number, to=name))

    def test_groups_of_every_size(self):
        versions = [("x" * (at % 8 + 1), at * at) for at in range(40)]
        group = Group(SMALL, versions, ["ann", "bob", "cid", "dora", "eve", "fay"], rules=[("counters", (1,), 0, 1)] * 20)
        self.assertSame(group_text(read_group(group_text(group))), group_text(group))
        self.assertIs(read_group(group_text(group)) == group, True)
        large = Group(LARGE, [("x",) * 12 + (1, -2, 3, -SIXTY)], ["ann"])
        self.assertIs(read_group(group_text(large)) == large, True)

    def test_great_counters(self):
        group = read_group(TEXT)
        group.create("ann", ("red", 10 + 4 * 10 ** 5000))
        text = group_text(group)
        self.assertIn("create ann red,4" + "0" * 4998 + "10\n", text)
        self.assertIs(read_group(text) == group, True)

    def test_by_name(self):
        self.assertSame(group_text(group=read_group(text=TEXT)), TEXT)

    def test_groups_of_one_text_share_no_state(self):
        one, other = read_group(TEXT), read_group(TEXT)
        one.create("ann", ("red", 14))
        self.assertSame(group_text(other), TEXT)


class Faults(Case):
    def fails(self, text, line):
        self.assertRaisesWith(InvalidText, {"line": line}, read_group, text)

    def replaced(self, number, *lines, text=LONG):
        """The text with other lines in the place of the line with this number."""
        rows = text.split("\n")[:-1]
        rows[number - 1:number] = lines
        return "".join(row + "\n" for row in rows)

    def test_values_that_are_no_strings(self):
        for text in NO_STRINGS + [deep_list(), endless_list(), Group(SMALL, [("red", 1)], ["ann"])]:
            self.fails(text, 0)

    def test_texts_that_end_too_early(self):
        self.fails("", 1)
        self.fails("schema color:mine\n", 2)
        self.fails("schema color:mine\nreplicas ann\n", 3)
        read_group("schema color:mine\nreplicas ann\nversion red\n")

    def test_every_beginning(self):
        for end in range(len(LONG) + 1):
            text = LONG[:end]
            count = text.count("\n")
            if text.endswith("\n") and count >= 3:
                self.assertSame(group_text(read_group(text)), text)
            else:
                self.fails(text, count + 1)

    def test_a_last_line_without_a_line_feed(self):
        self.fails(TEXT[:-1], 4)
        self.fails(TEXT + "announce", 5)
        self.fails(TEXT + " ", 5)
        self.fails(TEXT + "nonsense\nannounce", 5)
        self.fails(TEXT + "announce\nx", 6)

    def test_empty_lines(self):
        for number in range(1, LONG.count("\n") + 2):
            rows = LONG.split("\n")[:-1]
            rows.insert(number - 1, "")
            self.fails("".join(row + "\n" for row in rows), number)
        self.fails("\n", 1)
        self.fails("\n\n", 1)

    def test_the_schema(self):
        for line in ["schema", "schema ", "Schema color:mine stock:counter", "schema  color:mine stock:counter",
                     "schema color:mine stock:counter ", "schema color:mine  stock:counter", "schema color",
                     "schema color:m", "schema color:mine color:counter", "color:mine stock:counter",
                     "replicas ann bob", " schema color:mine", "schema color:mine,stock:counter", "schema Color:mine",
                     "schemacolor:mine", "schema:color:mine"]:
            self.fails(self.replaced(1, line), 1)
        many = " ".join(f"{letter}:mine" for letter in "abcdefghijklm")
        self.fails(self.replaced(1, "schema " + many), 1)

    def test_the_replicas(self):
        for line in ["replicas", "replicas ", "replicas ann  bob", "replicas ann bob ", "replicas ann ann",
                     "replicas Ann", "replicas ann,bob", "replica ann bob", "replicas ann bob cid dora eve fay gus",
                     "replicas abcdefghi", "version red,10", "schema color:mine stock:counter", " replicas ann",
                     "ann bob", "replicas 7"]:
            self.fails(self.replaced(2, line), 2)
        self.fails(self.replaced(2, "replicas bob"), 7)
        self.fails(self.replaced(2, "replicas ann"), 9)

    def test_the_versions(self):
        for line in ["version", "version ", "version red", "version red,10,10", "version red,10 ", "version  red,10",
                     "version red, 10", "version 10,red", "version red,010", "version red,-0", "version Red,10",
                     "Version red,10", "versions red,10", "red,10", "rule counters 1 0 2", "announce",
                     "create ann red,10", "replicas ann"]:
            self.fails(self.replaced(3, line), 3)
        self.fails(self.replaced(4, "version red,10"), 4)
        self.fails(self.replaced(4, "version blue,14", "version red,10"), 5)
        self.fails(self.replaced(4, "version blue,14", "version red,10", "nonsense"), 5)

    def test_versions_too_many(self):
        start = "schema color:mine stock:counter\nreplicas ann\n"
        forty = "".join(f"version red,{at}\n" for at in range(40))
        self.assertEqual(len(read_group(start + forty)), 40)
        self.fails(start + forty + "version red,40\n", 43)
        self.fails(start + forty + "version red,40\nversion red,41\n", 43)
        eight = "".join(f"version {'x' * at},0\n" for at in range(1, 9))
        self.assertEqual(len(read_group(start + eight)), 8)
        self.fails(start + eight + "version y,0\n", 11)
        self.fails(start + eight + "version x,1\nversion y,0\nannounce\n", 12)

    def test_versions_behind_other_lines(self):
        self.fails(self.replaced(6, "version gray,10"), 6)
        self.fails(self.replaced(7, "version gray,10"), 7)
        self.fails(self.replaced(10, "version gray,10"), 10)
        self.fails(TEXT + "announce\nversion gray,10\n", 6)
        self.fails(TEXT + "announce\nrule counters 1 0 2\n", 6)
        self.fails(TEXT + "rule counters 1 0 2\nversion gray,10\n", 6)

    def test_the_rules(self):
        for line in ["rule", "rule ", "rule counters 1 0", "rule counters 1 0 -2", "rule  counters 1 0 2",
                     "Rule counters 1 0 2", "rules counters 1 0 2", "rule counters 1 1 2", "rule counters 1 0 8",
                     "rule labels color red", "rule labels color", "rule either labels color | counters 1 1 2",
                     "rule labels stock red", "counters 1 0 2", "rule counters 1 0 2 ",
                     "rule labels color red blue red"]:
            self.fails(self.replaced(5, line), 5)
        # A rule that the versions keep, but not with the version that is proposed later.
        self.fails(self.replaced(6, "rule labels color red blue"), 9)

    def test_rules_too_many(self):
        twenty = TEXT + "rule counters 1 0 2\n" * 20
        self.assertEqual(len(read_group(twenty).rules()), 20)
        self.fails(twenty + "rule counters 1 0 2\n", 25)
        self.fails(twenty + "add counters 1 0 2\n", 25)
        self.fails(twenty + "announce\nadd counters 1 0 2\nannounce\n", 26)

    def test_operations(self):
        wrong = ["nonsense", "create", "create ann", "create ann red", "create ann red,14 ", "create ann  red,14",
                 "create cid red,14", "create Ann red,14", "create ann gray,14", "create ann red,11",
                 "create ann red,14 red,14", "pick ann red,10 red,10", "pick ann red,10 red,10 red,10 red,10",
                 "pick ann red,10 red,10 red,14", "pick cid red,10 red,10 red,10", "propose ann",
                 "propose cid gray,10", "propose ann gray,", "add", "add counters 1 1 2", "add counters 1 0",
                 "add  counters 1 0 2", "add labels color", "announce ", "announce ann", "Announce", "send",
                 "send cid", "send ann bob", "deliver", "deliver 0", "deliver 0 ann", "deliver ann 0",
                 "deliver -1 ann", "deliver 00 ann", "quota", "quota 1", "quota 41", "quota 040", "quota -3",
                 "quota 3 4", "quota three", "held ann", "licence ann", "admitted", "rules", "blocks", "basis",
                 "count", "reach red,10", "kept counters 1 0 2", "conflicts red,10 red,10 red,10",
                 "schema color:mine stock:counter", " announce", "replicas ann bob", "create\tann red,14",
                 "set_quota 3", "add_rule counters 1 0 2"]
        for line in wrong:
            self.fails(TEXT + line + "\n", 5)
            self.fails(TEXT + line + "\nannounce\n", 5)
            self.fails(TEXT + "announce\nsend ann\n" + line.replace("deliver 0 ann", "deliver 2 ann") + "\n", 7)

    def test_numbers_of_messages(self):
        self.fails(TEXT + "deliver 0 ann\nannounce\n", 5)
        self.fails(TEXT + "announce\ndeliver 1 ann\n", 6)
        self.fails(TEXT + "announce\ndeliver 0 cid\n", 6)
        read_group(TEXT + "announce\ndeliver 0 ann\ndeliver 0 ann\n")

    def test_the_quota_at_its_time(self):
        read_group(TEXT + "quota 2\nquota 40\npropose ann red,11\nquota 3\n")
        self.fails(TEXT + "quota 2\npropose ann red,11\n", 6)
        self.fails(TEXT + "propose ann red,11\nquota 2\n", 6)

    def test_any_change_of_a_text(self):
        # The line that is reported is the first one behind which no text goes on.
        source = random.Random(73)
        rows = LONG.split("\n")[:-1]
        accepted = 0
        for _ in range(400):
            lines = list(rows)
            for _ in range(source.randint(1, 2)):
                at, other = source.randrange(len(lines)), source.randrange(len(lines))
                way = source.randrange(4)
                if way == 0:
                    lines[at], lines[other] = lines[other], lines[at]
                elif way == 1:
                    lines.insert(at, lines[other])
                elif way == 2:
                    del lines[at]
                else:
                    lines[at] = lines[at].replace(source.choice("abd123e"), source.choice(["", "x", "1", " "]), 1)
            text = "".join(line + "\n" for line in lines)
            try:
                group = read_group(text)
            except InvalidText as error:
                number = error.line
                self.assertTrue(1 <= number <= len(lines) + 1)
                self.fails("".join(line + "\n" for line in lines[:number]), number)
                before = "".join(line + "\n" for line in lines[:number - 1])
                if number > 3:
                    self.assertSame(group_text(read_group(before)), before)
                else:
                    self.fails(before, number)
            else:
                accepted += 1
                self.assertSame(group_text(group), text)
        self.assertGreater(accepted, 20)

    def test_versions_of_the_schema_of_the_text(self):
        text = "schema n:counter a:theirs\nreplicas ann\nversion 5,x\n"
        group = read_group(text)
        self.assertSame(version_text(group.schema(), group.admitted()[0]), "5,x")
        self.fails(text + "create ann x,5\n", 4)


if __name__ == "__main__":
    unittest.main()

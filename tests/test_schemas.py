import itertools
import unittest
from collections import namedtuple

from mergereach.errors import InvalidSchema, InvalidText, MergeError, MissingError, UnknownField
from mergereach.schemas import Schema, is_name
from tests.support import (FIELDS, NO_LISTS, NO_NAMES, NO_STRINGS, NO_TUPLES, Case, EqualToAll, Thing, deep_list,
                           endless_list, example_schema)

LABELS = [("f" + letter, "mine" if number % 2 else "theirs") for number, letter in enumerate("abcdefghijklm")]
COUNTERS = [("n" + letter, "counter") for letter in "abcde"]


class Names(Case):
    def test_example_of_the_document(self):
        self.assertSame([is_name("red"), is_name("Red"), is_name(""), is_name(3)], [True, False, False, False])

    def test_each_letter_and_each_length(self):
        for letter in "abcdefghijklmnopqrstuvwxyz":
            self.assertIs(is_name(letter), True)
        for length in range(1, 9):
            self.assertIs(is_name("z" * length), True)
        self.assertIs(is_name("z" * 9), False)
        self.assertIs(is_name("z" * 100), False)

    def test_no_other_character_at_any_place(self):
        for code in list(range(32, 127)) + [10]:
            if not "a" <= chr(code) <= "z":
                for text in (chr(code), chr(code) + "red", "re" + chr(code) + "d", "red" + chr(code)):
                    self.assertIs(is_name(text), False, text)

    def test_all_other_values(self):
        for thing in NO_NAMES:
            with self.subTest(thing=thing):
                self.assertIs(is_name(thing), False)
        for thing in (endless_list(), deep_list()):
            self.assertIs(is_name(thing), False)

    def test_by_name(self):
        self.assertIs(is_name(thing="red"), True)
        self.assertIs(is_name(thing="Red"), False)


class MakingSchemas(Case):
    def refused(self, fields, problem, index):
        self.assertRaisesWith(InvalidSchema, {"problem": problem, "index": index}, Schema, fields)

    def test_ordinary_fields(self):
        schema = Schema(FIELDS)
        self.assertSame(schema.fields(), [("color", "mine"), ("state", "theirs"), ("stock", "counter")])

    def test_a_tuple_of_fields_is_accepted(self):
        self.assertEqual(Schema(tuple(FIELDS)), Schema(FIELDS))
        self.assertSame(Schema(tuple(FIELDS)).fields(), FIELDS)

    def test_by_name(self):
        self.assertEqual(Schema(fields=FIELDS), Schema(FIELDS))

    def test_each_kind_alone(self):
        for kind in ("mine", "theirs", "counter"):
            self.assertSame(Schema([("a", kind)]).fields(), [("a", kind)])

    def test_example_of_the_document(self):
        self.refused([("color", "mine"), ("color", "counter")], "duplicate", 1)

    def test_not_a_list_or_empty(self):
        for fields in NO_LISTS:
            with self.subTest(fields=fields):
                self.refused(fields, "list", -1)
        self.refused([], "list", -1)
        self.refused((), "list", -1)
        self.refused({("color", "mine"): 1}, "list", -1)
        self.refused((field for field in FIELDS), "list", -1)

    def test_items_that_are_no_fields(self):
        wrong = NO_TUPLES + [(), ("color",), ("color", "mine", "mine"), ["color", "mine"], "ab", ["a", "b"],
                             ("mine", "color"), (("color", "mine"),), {"color": "mine", "state": "theirs"}]
        for item in wrong:
            with self.subTest(item=item):
                self.refused([item], "field", 0)
                self.refused([("a", "mine"), item, ("a", "mine")], "field", 1)

    def test_fields_whose_name_is_no_name(self):
        for name in NO_NAMES:
            with self.subTest(name=name):
                self.refused([("a", "counter"), ("b", "mine"), (name, "mine")], "field", 2)
                self.refused([(name, "counter")], "field", 0)

    def test_fields_whose_kind_is_no_kind(self):
        kinds = NO_STRINGS + ["", "ours", "Mine", "mine ", " mine", "counters", "count", "label", "mine\n", "m", "min"]
        for kind in kinds:
            with self.subTest(kind=kind):
                self.refused([("a", kind)], "field", 0)

    def test_unusual_lists(self):
        self.refused(endless_list(), "field", 0)
        self.refused(deep_list(), "field", 0)
        self.refused([("a", endless_list())], "field", 0)
        self.refused([(deep_list(), "mine")], "field", 0)

    def test_names_of_one_eight_and_nine_letters(self):
        self.assertSame(Schema([("a", "mine")]).names(), ["a"])
        self.assertSame(Schema([("abcdefgh", "mine")]).names(), ["abcdefgh"])
        self.refused([("abcdefghi", "mine")], "field", 0)

    def test_duplicates(self):
        for one, other in itertools.product(("mine", "theirs", "counter"), repeat=2):
            self.refused([("a", one), ("b", "mine"), ("a", other)], "duplicate", 2)
        self.refused([("a", "mine"), ("b", "mine"), ("b", "mine"), ("a", "mine")], "duplicate", 2)

    def test_twelve_label_fields_and_four_counters(self):
        fields = COUNTERS[:2] + LABELS[:12] + COUNTERS[2:4]
        schema = Schema(fields)
        self.assertSame(schema.fields(), fields)
        self.assertEqual(len(schema), 16)
        self.assertEqual(len(schema.label_names()), 12)
        self.assertEqual(len(schema.counter_names()), 4)

    def test_the_thirteenth_label_field(self):
        self.refused(LABELS, "many", 12)
        self.refused(COUNTERS[:4] + LABELS, "many", 16)
        self.refused(LABELS[:12] + COUNTERS[:3] + LABELS[12:], "many", 15)
        for kind in ("mine", "theirs"):
            labels = [(name, kind) for name, _ in LABELS]
            self.assertEqual(len(Schema(labels[:12])), 12)
            self.refused(labels, "many", 12)

    def test_the_fifth_counter(self):
        self.assertEqual(len(Schema(COUNTERS[:4])), 4)
        self.refused(COUNTERS, "many", 4)
        self.refused(COUNTERS[:3] + LABELS[:5] + COUNTERS[3:], "many", 9)

    def test_the_first_wrong_item_decides(self):
        self.refused([("a", "mine"), ("a", "mine"), ("B", "mine")], "duplicate", 1)
        self.refused([("a", "mine"), ("B", "mine"), ("a", "mine")], "field", 1)
        self.refused(COUNTERS + [("na", "mine")], "many", 4)
        self.refused(COUNTERS[:4] + [("na", "mine")] + COUNTERS[4:], "duplicate", 4)
        self.refused(LABELS + [None], "many", 12)
        self.refused(LABELS[:12] + [None] + LABELS[12:], "field", 12)

    def test_of_one_item_the_first_problem_decides(self):
        self.refused(COUNTERS[:4] + [("na", "counter")], "duplicate", 4)
        self.refused(LABELS[:12] + [LABELS[3]], "duplicate", 12)
        self.refused(LABELS[:12] + [("fa", "own")], "field", 12)

    def test_the_error_is_a_merge_error(self):
        with self.assertRaises(MergeError):
            Schema([])

    def test_the_argument_does_not_change(self):
        fields = list(FIELDS)
        Schema(fields)
        self.assertSame(fields, FIELDS)

    def test_later_changes_to_the_argument_have_no_effect(self):
        fields = list(FIELDS)
        schema = Schema(fields)
        fields[0] = ("size", "theirs")
        fields.append(("more", "counter"))
        del fields[1]
        self.assertSame(schema.fields(), FIELDS)
        self.assertEqual(len(schema), 3)
        self.assertEqual(schema, Schema(FIELDS))


class ReadingFields(Case):
    def test_examples_of_the_document(self):
        schema = example_schema()
        self.assertSame([len(schema), schema.names(), schema.label_names(), schema.counter_names()],
                        [3, ["color", "state", "stock"], ["color", "state"], ["stock"]])
        self.assertSame(schema.fields(), [("color", "mine"), ("state", "theirs"), ("stock", "counter")])

    def test_names_keep_the_sequence_of_the_fields(self):
        schema = Schema([("z", "counter"), ("y", "theirs"), ("b", "counter"), ("x", "mine"), ("a", "counter")])
        self.assertSame(schema.names(), ["z", "y", "b", "x", "a"])
        self.assertSame(schema.label_names(), ["y", "x"])
        self.assertSame(schema.counter_names(), ["z", "b", "a"])

    def test_only_labels_and_only_counters(self):
        self.assertSame(Schema([("a", "mine")]).counter_names(), [])
        self.assertSame(Schema([("a", "theirs")]).label_names(), ["a"])
        self.assertSame(Schema([("a", "counter")]).label_names(), [])

    def test_returned_lists_belong_to_the_caller(self):
        schema = example_schema()
        for method in (schema.fields, schema.names, schema.label_names, schema.counter_names):
            before = method()
            method().append("more")
            method().clear()
            self.assertSame(method(), before)
            self.assertIsNot(method(), method())
        self.assertEqual(schema, example_schema())
        self.assertEqual(len(schema), 3)

    def test_repeated_calls_return_the_same(self):
        schema = example_schema()
        for method in (schema.fields, schema.names, schema.label_names, schema.counter_names, schema.text):
            self.assertSame(method(), method())

    def test_class_values(self):
        self.assertSame([Schema.MOST_LABELS, Schema.MOST_COUNTERS], [12, 4])
        self.assertSame([example_schema().MOST_LABELS, example_schema().MOST_COUNTERS], [12, 4])

    def test_methods_are_defined_in_the_class_itself(self):
        for name in ("fields", "names", "label_names", "counter_names", "read", "text", "kind", "__eq__", "__len__",
                     "__repr__", "MOST_LABELS", "MOST_COUNTERS"):
            self.assertIn(name, vars(Schema))


class Comparing(Case):
    def test_equal_fields_in_the_same_sequence(self):
        self.assertIs(example_schema() == example_schema(), True)
        self.assertIs(example_schema() != example_schema(), False)

    def test_other_fields(self):
        schema = example_schema()
        others = [FIELDS[:2], FIELDS[::-1], FIELDS + [("more", "mine")], [("size", "mine")] + FIELDS[1:],
                  [("color", "theirs")] + FIELDS[1:], FIELDS[:2] + [("stock", "mine")]]
        for fields in others:
            with self.subTest(fields=fields):
                self.assertIs(schema == Schema(fields), False)
                self.assertIs(Schema(fields) == schema, False)
                self.assertIs(schema != Schema(fields), True)

    def test_nothing_else_is_equal(self):
        schema = example_schema()
        things = [None, True, 3, "color:mine state:theirs stock:counter", FIELDS, tuple(FIELDS), dict(FIELDS),
                  repr(schema), Thing(), EqualToAll(), Schema]
        for thing in things:
            with self.subTest(thing=thing):
                self.assertIs(schema == thing, False)
                self.assertIs(schema != thing, True)

    def test_repr(self):
        self.assertEqual(repr(example_schema()), "Schema([('color', 'mine'), ('state', 'theirs'), ('stock', 'counter')])")
        self.assertEqual(repr(Schema((("a", "counter"),))), "Schema([('a', 'counter')])")

    def test_fields_of_a_kind_of_tuple_become_plain_tuples(self):
        pair = namedtuple("pair", "name kind")
        schema = Schema([pair("a", "mine")])
        self.assertEqual(repr(schema), "Schema([('a', 'mine')])")
        self.assertSame(schema.fields(), [("a", "mine")])

    def test_len(self):
        for count in range(1, 13):
            self.assertEqual(len(Schema(LABELS[:count])), count)
            self.assertTrue(Schema(LABELS[:count]))


class Texts(Case):
    def test_examples_of_the_document(self):
        read = Schema.read("color:mine stock:counter")
        self.assertSame([read == Schema([("color", "mine"), ("stock", "counter")]), example_schema().text()],
                        [True, "color:mine state:theirs stock:counter"])

    def test_one_field(self):
        for kind in ("mine", "theirs", "counter"):
            self.assertSame(Schema([("a", kind)]).text(), "a:" + kind)
            self.assertSame(Schema.read("a:" + kind).fields(), [("a", kind)])

    def test_reading_and_writing_belong_together(self):
        for fields in (FIELDS, FIELDS[::-1], LABELS[:12] + COUNTERS[:4], COUNTERS[:1], [("abcdefgh", "theirs")]):
            schema = Schema(fields)
            self.assertIsInstance(Schema.read(schema.text()), Schema)
            self.assertSame(Schema.read(schema.text()).fields(), fields)
            self.assertSame(Schema.read(schema.text()).text(), schema.text())

    def test_read_by_name_and_off_an_object(self):
        self.assertEqual(Schema.read(text="a:mine"), Schema([("a", "mine")]))
        self.assertEqual(example_schema().read("a:mine"), Schema([("a", "mine")]))

    def test_values_that_are_no_strings(self):
        for text in NO_STRINGS + [FIELDS, Schema(FIELDS), b"a:mine"]:
            with self.subTest(text=text):
                self.assertRaisesWith(InvalidText, {"line": 0}, Schema.read, text)
        for text in (endless_list(), deep_list()):
            self.assertRaisesWith(InvalidText, {"line": 0}, Schema.read, text)

    def test_strings_that_are_no_texts(self):
        texts = ["", " ", "\n", ":", "a", "a:", ":mine", "a:mine ", " a:mine", "a:mine\n", "\na:mine", "a:mine  b:mine",
                 "a:mine\nb:mine", "a:mine,b:mine", "a mine", "a: mine", "a :mine", "a:mine:", ":a:mine", "a::mine",
                 "a:mine:theirs", "a:Mine", "A:mine", "a:label", "a:counters", "abcdefghi:mine", "a1:mine",
                 "a:mine a:mine", "a:mine a:counter", "a:mine b", "mine:a", "a:mine\tb:mine", "a=mine", "a;mine",
                 " ".join([name + ":mine" for name, _ in LABELS]), " ".join([name + ":counter" for name, _ in COUNTERS]),
                 repr(Schema(FIELDS))]
        for text in texts:
            with self.subTest(text=text):
                self.assertRaisesWith(InvalidText, {"line": 1}, Schema.read, text)

    def test_most_fields_as_a_text(self):
        labels = " ".join([name + ":mine" for name, _ in LABELS[:12]])
        counters = " ".join([name + ":counter" for name, _ in COUNTERS[:4]])
        self.assertEqual(len(Schema.read(labels + " " + counters)), 16)


class Kinds(Case):
    def test_example_of_the_document(self):
        self.assertSame(example_schema().kind("state"), "theirs")

    def test_each_field(self):
        schema = example_schema()
        for name, kind in FIELDS:
            self.assertSame(schema.kind(name), kind)
            self.assertSame(schema.kind(field=name), kind)

    def test_values_that_are_no_names_of_fields(self):
        schema = example_schema()
        wrong = NO_STRINGS + ["", "size", "colo", "colors", "Color", "color ", "mine", "counter", "color:mine", "color\n",
                              ["color"], ("color",), ("color", "mine"), {"color": 1}]
        for field in wrong:
            with self.subTest(field=field):
                self.assertRaisesWith(UnknownField, {"field": field}, schema.kind, field)
        with self.assertRaises(MissingError):
            schema.kind("size")

    def test_unusual_values(self):
        for field in (endless_list(), deep_list()):
            with self.assertRaises(UnknownField):
                example_schema().kind(field)

    def test_later_changes_do_not_change_the_error(self):
        field = ["color"]
        error = self.assertRaisesWith(UnknownField, {"field": ["color"]}, example_schema().kind, field)
        field.append("more")
        self.assertSame(error.field, ["color"])


if __name__ == "__main__":
    unittest.main()

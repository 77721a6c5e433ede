import unittest

from mergereach.errors import InvalidText, InvalidVersion
from mergereach.numbertexts import is_number_text, number_of, number_text
from mergereach.schemas import Schema
from mergereach.versiontexts import read_version, version_text
from tests.support import (FIELDS, NO_NAMES, NO_NUMBERS, NO_STRINGS, NO_TUPLES, RED, SIXTY, Case, deep_list,
                           endless_list, example_schema)

MIXED = Schema([("n", "counter"), ("a", "mine"), ("m", "counter"), ("b", "theirs")])
ONE_LABEL = Schema([("a", "theirs")])
ONE_COUNTER = Schema([("n", "counter")])
NUMBERS = [0, 1, -1, 7, 9, 10, -10, 99, 100, 101, 1000, -1009, 123456789, SIXTY, -SIXTY, 10 ** 59, -(10 ** 59)]
NO_NUMBER_TEXTS = ["", "-", "--1", "-0", "00", "01", "-01", "007", "000", "+1", "+0", "1+", "1-", "-1-", "- 1", " 1",
                   "1 ", "1 0", "1\n", "\n1", "1_0", "1.0", "0x1", "1e3", "one", "1a", "a1", "0-", "0 ", "1,0"]


class Writing(Case):
    def test_examples_of_the_document(self):
        self.assertSame(version_text(example_schema(), ("red", "open", -10)), "red,open,-10")
        self.assertSame(version_text(example_schema(), RED), "red,open,10")

    def test_counters(self):
        for number in NUMBERS:
            self.assertSame(version_text(ONE_COUNTER, (number,)), str(number))
            self.assertSame(version_text(MIXED, (number, "a", 5, "b")), f"{number},a,5,b")

    def test_one_label(self):
        self.assertSame(version_text(ONE_LABEL, ("abcdefgh",)), "abcdefgh")

    def test_values_that_are_no_versions(self):
        wrong = NO_TUPLES + [(), ("red", "open"), ("red", "open", 10, 10), "red,open,10"]
        wrong += [(name, "open", 10) for name in NO_NAMES] + [("red", "open", number) for number in NO_NUMBERS]
        for version in wrong:
            with self.subTest(version=version):
                self.assertRaisesWith(InvalidVersion, {"version": version}, version_text, example_schema(), version)
        for version in (endless_list(), deep_list()):
            with self.assertRaises(InvalidVersion):
                version_text(example_schema(), version)

    def test_by_name(self):
        self.assertSame(version_text(schema=example_schema(), version=RED), "red,open,10")
        self.assertSame(version_text(version=RED, schema=example_schema()), "red,open,10")

    def test_no_argument_changes(self):
        schema = example_schema()
        wrong = ["red", "open", 10]
        version_text(schema, RED)
        error = self.assertRaisesWith(InvalidVersion, {"version": wrong}, version_text, schema, wrong)
        wrong.append(11)
        self.assertSame(error.version, ["red", "open", 10])
        self.assertSame(schema.fields(), FIELDS)


class Reading(Case):
    def refused(self, schema, text, line):
        self.assertRaisesWith(InvalidText, {"line": line}, read_version, schema, text)

    def test_examples_of_the_document(self):
        self.assertSame(read_version(example_schema(), "red,open,-10"), ("red", "open", -10))
        self.refused(example_schema(), "red,open,-0", 1)

    def test_counters(self):
        for number in NUMBERS:
            self.assertSame(read_version(ONE_COUNTER, str(number)), (number,))
            self.assertSame(read_version(MIXED, f"5,a,{number},b"), (5, "a", number, "b"))

    def test_one_label(self):
        self.assertSame(read_version(ONE_LABEL, "a"), ("a",))
        self.assertSame(read_version(ONE_LABEL, "abcdefgh"), ("abcdefgh",))
        self.refused(ONE_LABEL, "abcdefghi", 1)

    def test_reading_and_writing_belong_together(self):
        for number in NUMBERS:
            version = (number, "red", -number, "x")
            self.assertSame(read_version(MIXED, version_text(MIXED, version)), version)

    def test_values_that_are_no_strings(self):
        for text in NO_STRINGS + [RED, list(RED), b"red,open,10"]:
            with self.subTest(text=text):
                self.refused(example_schema(), text, 0)
        for text in (endless_list(), deep_list()):
            self.refused(example_schema(), text, 0)

    def test_texts_of_no_numbers(self):
        for word in NO_NUMBER_TEXTS:
            with self.subTest(word=word):
                self.refused(example_schema(), "red,open," + word, 1)
                self.refused(ONE_COUNTER, word, 1)
                self.refused(MIXED, word + ",a,5,b", 1)

    def test_texts_of_no_names(self):
        for word in ("", "Red", "r d", "red ", " red", "red\n", "\nred", "abcdefghi", "7", "-7", "0", "red-", "re:d"):
            with self.subTest(word=word):
                self.refused(example_schema(), word + ",open,10", 1)
                self.refused(example_schema(), "red," + word + ",10", 1)
                self.refused(ONE_LABEL, word, 1)

    def test_wrong_numbers_of_parts(self):
        for text in ("", ",", ",,", ",,,", "red", "10", "red,open", "open,10", "red,open,10,", ",red,open,10", "red,,10",
                     "red,open,10,10", "red,open,,10", "red,open,", "red,open,10\n", "red,open,10,\n"):
            with self.subTest(text=text):
                self.refused(example_schema(), text, 1)
        for schema in (ONE_LABEL, ONE_COUNTER):
            for text in ("", ",", "a,", ",a", "1,", ",1"):
                self.refused(schema, text, 1)

    def test_other_separators_and_forms(self):
        for text in ("red open 10", "red, open, 10", "red;open;10", "red,open 10", "('red', 'open', 10)", "red\nopen\n10",
                     "color:red,state:open,stock:10", " red,open,10", "red,open,10 ", "10,open,red", "red,10,open"):
            with self.subTest(text=text):
                self.refused(example_schema(), text, 1)

    def test_by_name(self):
        self.assertSame(read_version(schema=example_schema(), text="red,open,10"), RED)
        self.assertSame(read_version(text="red,open,10", schema=example_schema()), RED)

    def test_repeated_calls_return_the_same(self):
        schema = example_schema()
        self.assertSame(read_version(schema, "red,open,10"), read_version(schema, "red,open,10"))
        self.assertSame(schema.fields(), FIELDS)


class NumberTexts(Case):
    def test_both_directions(self):
        for number in NUMBERS + list(range(-1100, 1100)):
            self.assertSame(number_text(number), str(number))
            self.assertSame(number_of(str(number)), number)
            self.assertIs(is_number_text(str(number)), True)

    def test_strings_that_are_no_number_texts(self):
        for text in NO_NUMBER_TEXTS:
            self.assertIs(is_number_text(text), False, text)

    def test_numbers_longer_than_python_converts(self):
        # Results of picks may be longer than what callers pass in, and may be passed in again.
        number = 10 ** 6000
        self.assertEqual(version_text(ONE_COUNTER, (number,)), "1" + "0" * 6000)
        self.assertEqual(version_text(ONE_COUNTER, (-number,)), "-1" + "0" * 6000)
        self.assertTrue(read_version(ONE_COUNTER, "1" + "0" * 6000) == (number,))
        self.assertTrue(read_version(ONE_COUNTER, "-" + "9" * 6000) == (1 - number,))


if __name__ == "__main__":
    unittest.main()

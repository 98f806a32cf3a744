"""c1, c2 and v1: names, values and their codes."""

import itertools
import unittest

from formflow.values import code_of, is_name, is_value, value_of

# Values, each with its code.
CODES = (
    (("truth", True), "yes"),
    (("truth", False), "no"),
    (("number", 0), "0"),
    (("number", 7), "7"),
    (("number", -7), "-7"),
    (("number", 10), "10"),
    (("number", 9999), "9999"),
    (("number", -9999), "-9999"),
    (("number", 10000), "10000"),
    (("number", -1000000), "-1000000"),
    (("number", 10 ** 100 - 1), "9" * 100),
    (("number", 1 - 10 ** 100), "-" + "9" * 100),
    (("option", "a"), ".a"),
    (("option", "sum"), ".sum"),
    (("option", "abc123"), ".abc123"),
    (("options", ()), "[]"),
    (("options", ("a",)), "[a]"),
    (("options", ("a", "b")), "[a,b]"),
    (("options", ("a", "a1", "b")), "[a,a1,b]"),
    (("text", ""), '"'),
    (("text", "a"), '"a'),
    (("text", '"'), '""'),
    (("text", "yes"), '"yes'),
    (("text", " a\\b\nc "), '" a\\b\nc '),
    (("text", "\u00e9\u20ac"), '"\u00e9\u20ac'),
)

NO_CODES = (
    "", "-", "-0", "00", "01", "-01", "+1", "1 ", " 1", "1.0", "1_0", "--1", "1-",
    "\u0663", "\u00b2", "-\u0663", "Yes", "YES", "yes ", " no", "true", "open",
    ".", ".yes", ".row", ".if", ".1a", ".A", ".a ", ". a", ".abcdefg", "..a", ".a.b", ".a_b",
    "[", "]", "[a", "a]", "[b,a]", "[a,a]", "[a,b,a]", "[a, b]", "[,]", "[a,]", "[,a]",
    "[yes]", "[abcdefg]", "[A]", "[1]", "[a]b", "[[a]]", "[.a]", "[a1,a]", "[ ]",
    "a", "'a'", "'", "\n", "1\n", "yes\n", ".a\n", "[a]\n", "None",
)


class NamesTest(unittest.TestCase):
    def test_names(self):
        for text in ("a", "z", "a1", "z9", "abcdef", "a00000", "rows", "ifs", "yess", "o", "n",
                     "count", "sum", "any", "all", "least", "has", "thens", "row1"):
            self.assertIs(is_name(text), True, text)

    def test_words_that_are_no_names(self):
        for text in ("if", "then", "else", "or", "and", "not", "yes", "no", "row"):
            self.assertIs(is_name(text), False, text)

    def test_lengths(self):
        self.assertIs(is_name(""), False)
        self.assertIs(is_name("a" * 6), True)
        self.assertIs(is_name("a" * 7), False)
        self.assertIs(is_name("answered"), False)

    def test_signs(self):
        for text in ("1", "1a", "A", "aB", "a_b", "_a", "a b", " a", "a ", "a-b", "\u00e9", "a\u00e9",
                     "a\u0663", "a\n", "\n", "a.b", "'a'"):
            self.assertIs(is_name(text), False, text)


class CodesTest(unittest.TestCase):
    def test_code_of_each_value(self):
        for value, code in CODES:
            self.assertEqual(code_of(value), code)

    def test_value_of_each_code(self):
        for value, code in CODES:
            found = value_of(code)
            self.assertEqual(found, value)
            self.assertIs(type(found), tuple)
            self.assertIs(type(found[1]), type(value[1]))

    def test_open(self):
        self.assertEqual(code_of(None), "")
        self.assertIsNone(value_of(""))

    def test_texts_that_are_no_codes(self):
        for text in NO_CODES:
            self.assertIsNone(value_of(text), text)

    def test_signs_in_numbers_and_names(self):
        for point in range(256):
            sign = chr(point)
            digit, letter = "0" <= sign <= "9", "a" <= sign <= "z"
            self.assertEqual(value_of("1" + sign) is not None, digit, sign)
            self.assertEqual(value_of("-1" + sign) is not None, digit, sign)
            self.assertEqual(is_name("a" + sign), digit or letter, sign)
            self.assertEqual(is_name(sign), letter, sign)

    def test_numbers_have_at_most_100_digits(self):
        for text in ("1" * 101, "-" + "1" * 101, "1" * 5000):
            self.assertIsNone(value_of(text))

    def test_each_text_is_the_code_of_one_value_at_most(self):
        signs = 'ab01-,.[]"ysno \n'
        for length in range(5):
            for picked in itertools.product(signs, repeat=length):
                text = "".join(picked)
                value = value_of(text)
                if value is not None:
                    self.assertEqual(code_of(value), text)


class IsValueTest(unittest.TestCase):
    def test_values(self):
        for value, _ in CODES:
            if value[0] != "number":
                self.assertIs(is_value(value), True, value)
        self.assertIs(is_value(("text", "a" * 1000)), True)

    def test_numbers_of_entries(self):
        for number in (0, 1, -1, 9999, -9999):
            self.assertIs(is_value(("number", number)), True, number)
        for number in (10000, -10000, 10 ** 50, -10 ** 50):
            self.assertIs(is_value(("number", number)), False, number)

    def test_parts_of_another_kind(self):
        for thing in (("truth", 1), ("truth", 0), ("truth", None), ("truth", "yes"),
                      ("number", True), ("number", False), ("number", "1"), ("number", None), ("number", 1.0),
                      ("option", None), ("option", 1), ("option", ("a",)), ("option", ["a"]),
                      ("options", "a"), ("options", ["a"]), ("options", None), ("options", (1,)),
                      ("options", (["a"],)), ("options", (None, "a")), ("options", {"a": True}),
                      ("text", None), ("text", 1), ("text", b"a"), ("text", ("a",))):
            self.assertIs(is_value(thing), False, thing)

    def test_options(self):
        for names in (("b", "a"), ("a", "a"), ("a", "b", "b"), ("yes",), ("abcdefg",), ("",), ("A",)):
            self.assertIs(is_value(("options", names)), False, names)
        for name in ("", "if", "row", "1", "abcdefg", "a b"):
            self.assertIs(is_value(("option", name)), False, name)

    def test_other_things(self):
        for thing in (None, True, 1, "yes", "", (), ("truth",), ("truth", True, True), ["truth", True],
                      ("name", "a"), ("row",), ("", ""), (None, None), (1, 2), {"truth": True},
                      (["truth"], True), (("truth", True),), ("Truth", True), ("date", 1)):
            self.assertIs(is_value(thing), False, thing)


if __name__ == "__main__":
    unittest.main()

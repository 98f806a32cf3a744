"""t1, t2, t3 and t4: the written form of expressions."""

import itertools
import random
import unittest

from formflow.errors import BadText
from formflow.reading import parse_expression
from formflow.writing import expression_text
from shapes import random_expression

A, B, C = (("name", name) for name in "abc")
# The signs of each level, from the weakest to the strongest.
LEVELS = {1: ("or",), 2: ("and",), 4: ("=", "<>", "<", "<=", ">", ">="), 5: ("+", "-"), 6: ("*",), 7: ("??",)}
IF = ("if", A, B, C)


def op(sign, left, right):
    return ("op", sign, left, right)


class WritingTest(unittest.TestCase):
    def check(self, expression, text):
        self.assertEqual(expression_text(expression), text)
        self.assertEqual(parse_expression(text), expression)

    def test_examples(self):
        shape = parse_expression("if a>=2 then sum(b) else -c")
        self.assertEqual(shape, ("if", op(">=", A, ("number", 2)), ("ask", "sum", "b"), ("minus", C)))
        self.assertEqual(expression_text(shape), "if a >= 2 then sum(b) else -c")
        self.assertEqual(expression_text(parse_expression("(a+b)*(c??0)=has(x,'o')")),
                         "(a + b) * c ?? 0 = has(x, 'o')")

    def test_strongest(self):
        for expression, text in (
                (("number", 0), "0"), (("number", 9999), "9999"), (("truth", True), "yes"), (("truth", False), "no"),
                (("option", "abc1"), "'abc1'"), (("option", "sum"), "'sum'"), (A, "a"), (("name", "has"), "has"),
                (("row",), "row"), (("has", "x", "o"), "has(x, 'o')")):
            self.check(expression, text)
        for function in ("answered", "count", "sum", "any", "all", "least", "greatest"):
            self.check(("ask", function, "x"), f"{function}(x)")

    def test_spaces(self):
        for signs in LEVELS.values():
            for sign in signs:
                self.check(op(sign, A, B), f"a {sign} b")
        self.check(("not", A), "not a")
        self.check(("not", ("option", "o")), "not 'o'")
        self.check(("not", ("minus", A)), "not -a")
        self.check(("not", op("or", A, B)), "not (a or b)")
        self.check(("minus", A), "-a")
        self.check(("minus", ("minus", A)), "--a")
        self.check(op("-", A, ("minus", ("minus", B))), "a - --b")
        self.check(("minus", op("+", A, B)), "-(a + b)")
        self.check(IF, "if a then b else c")
        self.check(("if", op("=", op("*", op("+", A, B), C), C), ("minus", A), ("option", "o")),
                   "if (a + b) * c = c then -a else 'o'")

    def test_brackets_between_levels(self):
        for level, sign in [(level, sign) for level, signs in LEVELS.items() for sign in signs]:
            for inner_level, inner in [(at, other) for at, others in LEVELS.items() for other in others]:
                # On the left stands anything as strong; comparisons and the right side ask for more.
                left = inner_level > level or (inner_level == level and level != 4)
                right = inner_level > level
                self.check(op(sign, op(inner, A, B), C),
                           f"a {inner} b {sign} c" if left else f"(a {inner} b) {sign} c")
                self.check(op(sign, A, op(inner, B, C)),
                           f"a {sign} b {inner} c" if right else f"a {sign} (b {inner} c)")

    def test_brackets_around_not_minus_and_if(self):
        for level, signs in LEVELS.items():
            for sign in signs:
                self.check(op(sign, ("not", A), B), f"not a {sign} b" if level < 3 else f"(not a) {sign} b")
                self.check(op(sign, A, ("not", B)), f"a {sign} not b" if level < 3 else f"a {sign} (not b)")
                self.check(op(sign, ("minus", A), B), f"-a {sign} b")
                self.check(op(sign, A, ("minus", B)), f"a {sign} -b")
                self.check(op(sign, IF, B), f"(if a then b else c) {sign} b")
                self.check(op(sign, A, IF), f"a {sign} (if a then b else c)")
                self.check(("not", op(sign, A, B)), f"not (a {sign} b)" if level < 3 else f"not a {sign} b")
                self.check(("minus", op(sign, A, B)), f"-(a {sign} b)")
        self.check(("not", ("not", A)), "not not a")
        self.check(("minus", ("not", A)), "-(not a)")
        self.check(("not", IF), "not (if a then b else c)")
        self.check(("minus", IF), "-(if a then b else c)")

    def test_no_brackets_within_if(self):
        inner = "if a then b else c"
        self.check(("if", IF, IF, IF), f"if {inner} then {inner} else {inner}")
        self.check(("if", op("or", A, B), ("not", A), op("and", A, B)), "if a or b then not a else a and b")

    def test_chains(self):
        for signs in LEVELS.values():
            for one, two, three in itertools.product(signs, repeat=3):
                if len(signs) > 2:
                    continue
                self.check(op(three, op(two, op(one, A, B), C), A), f"a {one} b {two} c {three} a")
                self.check(op(one, A, op(two, B, op(three, C, A))), f"a {one} (b {two} (c {three} a))")
                self.check(op(two, op(one, A, B), op(three, C, A)), f"a {one} b {two} (c {three} a)")

    def test_deep_shapes(self):
        chain, deep, nots = A, A, A
        for _ in range(400):
            chain, deep, nots = op("+", chain, B), op("-", B, deep), ("not", nots)
        self.assertEqual(expression_text(chain), "a" + " + b" * 400)
        self.assertEqual(expression_text(deep), "b - (" * 399 + "b - a" + ")" * 399)
        self.assertEqual(expression_text(nots), "not " * 400 + "a")


class RandomShapesTest(unittest.TestCase):
    def test_read_as_the_same(self):
        pick = random.Random(4)
        found = longest = 0
        while found < 4000:
            shape = random_expression(pick, 4)
            text = expression_text(shape)
            if len(text) <= 150:
                found += 1
                longest = max(longest, len(text))
                self.assertEqual(parse_expression(text), shape, text)
                spaced = text.replace(" ", "  ")
                if len(spaced) <= 150:
                    self.assertEqual(parse_expression(spaced), shape, spaced)
        self.assertGreater(longest, 140)

    def test_each_pair_of_brackets_is_needed(self):
        pick = random.Random(5)
        tried = 0
        while tried < 1500:
            shape = random_expression(pick, 3)
            text = expression_text(shape)
            if len(text) > 150:
                continue
            for start, end in bracket_pairs(text):
                tried += 1
                bare = text[:start] + text[start + 1:end] + text[end + 1:]
                self.assertNotEqual(read_or_none(bare), shape, text)

    def test_length_of_150(self):
        # Each " + b" has four characters.
        text = "aa" + " + b" * 37
        self.assertEqual(len(text), 150)
        self.assertEqual(expression_text(parse_expression(text)), text)
        with self.assertRaises(BadText) as caught:
            parse_expression(expression_text(op("+", parse_expression(text), B)))
        self.assertEqual((caught.exception.token, caught.exception.reason), (0, "text too long"))


def read_or_none(text):
    try:
        return parse_expression(text)
    except BadText:
        return None


def bracket_pairs(text):
    """The places of the brackets of a text, but those of functions."""
    opened, pairs = [], []
    for place, sign in enumerate(text):
        if sign == "(":
            opened.append(place)
        elif sign == ")":
            start = opened.pop()
            if start == 0 or not text[start - 1].isalnum():
                pairs.append((start, place))
    return pairs


if __name__ == "__main__":
    unittest.main()

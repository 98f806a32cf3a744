"""m1: what expressions come to."""

import random
import unittest

import model
from formflow.meaning import meaning
from formflow.reading import parse_expression
from shapes import random_expression
from states import NO, YES, number

ONE_OF_EACH = (YES, ("number", 3), ("option", "o"), ("options", ("o", "p")), ("text", "yes"))
MILLION = 1000000


def come_to(text, names=None, rows=None, at=None):
    return meaning(parse_expression(text), names or {}, rows or {}, at)


class MeaningTest(unittest.TestCase):
    def check(self, text, wanted, names=None, rows=None, at=None):
        found = come_to(text, names, rows, at)
        self.assertEqual(found, wanted, (text, names, rows, at))
        if wanted is not None:
            self.assertIs(type(found[1]), type(wanted[1]))

    def check_over(self, sign, table):
        """Holds a sign against a table from pairs of values to values."""
        for (one, other), wanted in table.items():
            self.check(f"a {sign} b", wanted, {"a": one, "b": other})

    def test_examples(self):
        self.check("sum(m) + (a ?? 1)", number(10), {}, {"m": (number(2), number(7))})
        self.check("a or yes", YES)
        self.check("a and row = 1", NO, {}, {}, 2)

    def test_literals_and_names(self):
        self.check("0", number(0))
        self.check("9999", number(9999))
        self.check("yes", YES)
        self.check("no", NO)
        self.check("'o'", ("option", "o"))
        for value in ONE_OF_EACH + (number(-5), number(5 * MILLION), ("options", ()), ("text", "")):
            self.check("a", value, {"a": value})
        self.check("a", None)
        self.check("a", None, {"a": None})
        self.check("a", None, {"b": YES}, {"a": (YES,)})

    def test_row(self):
        self.check("row", None)
        for at in (1, 2, 40):
            self.check("row", number(at), {}, {}, at)
        self.check("row + 1", number(3), {}, {}, 2)
        self.check("row + 1", None)
        self.check("row ?? 7", number(7))

    def test_not(self):
        self.check("not yes", NO)
        self.check("not no", YES)
        self.check("not a", None)
        for value in ONE_OF_EACH[1:]:
            self.check("not a", None, {"a": value})

    def test_and(self):
        self.check_over("and", {
            (YES, YES): YES, (YES, NO): NO, (NO, YES): NO, (NO, NO): NO, (NO, None): NO, (None, NO): NO,
            (YES, None): None, (None, YES): None, (None, None): None})
        for value in ONE_OF_EACH[1:]:
            self.check_over("and", {(value, NO): NO, (NO, value): NO, (value, YES): None, (YES, value): None,
                                    (value, value): None, (value, None): None})

    def test_or(self):
        self.check_over("or", {
            (YES, YES): YES, (YES, NO): YES, (NO, YES): YES, (NO, NO): NO, (YES, None): YES, (None, YES): YES,
            (NO, None): None, (None, NO): None, (None, None): None})
        for value in ONE_OF_EACH[1:]:
            self.check_over("or", {(value, YES): YES, (YES, value): YES, (value, NO): None, (NO, value): None,
                                   (value, value): None, (value, None): None})

    def test_likeness_over_all_kinds(self):
        values = ONE_OF_EACH + (NO, number(4), ("option", "p"), ("options", ("o",)), ("options", ()), ("text", "o"),
                                ("text", "3"), ("option", "yes1"), number(1), number(0), ("text", ""))
        for one in values:
            for other in values:
                self.check_over("=", {(one, other): ("truth", one == other)})
                self.check_over("<>", {(one, other): ("truth", one != other)})
            for sign in ("=", "<>"):
                self.check_over(sign, {(one, None): None, (None, one): None})
        for sign in ("=", "<>"):
            self.check_over(sign, {(None, None): None})

    def test_comparisons(self):
        for low, high in ((1, 2), (-2, -1), (-1, 0), (9, 10), (-10, 9), (5 * MILLION, 6 * MILLION)):
            one, other = number(low), number(high)
            self.check_over("<", {(one, other): YES, (other, one): NO, (one, one): NO})
            self.check_over("<=", {(one, other): YES, (other, one): NO, (one, one): YES})
            self.check_over(">", {(one, other): NO, (other, one): YES, (one, one): NO})
            self.check_over(">=", {(one, other): NO, (other, one): YES, (one, one): YES})

    def test_calculations(self):
        for left, right in ((2, 3), (3, 2), (0, 5), (-4, 3), (-4, -3), (7, 0)):
            pair = (number(left), number(right))
            self.check_over("+", {pair: number(left + right)})
            self.check_over("-", {pair: number(left - right)})
            self.check_over("*", {pair: number(left * right)})
        self.check("-a", number(-3), {"a": number(3)})
        self.check("--a", number(3), {"a": number(3)})
        self.check("-0", number(0))
        self.check("2 + 3 * 4 - 5", number(9))

    def test_numbers_are_wanted(self):
        for sign in ("<", "<=", ">", ">=", "+", "-", "*"):
            for value in (None,) + ONE_OF_EACH[:1] + ONE_OF_EACH[2:]:
                self.check_over(sign, {(value, number(2)): None, (number(2), value): None, (value, value): None})
        for value in (None,) + ONE_OF_EACH[:1] + ONE_OF_EACH[2:]:
            self.check("-a", None, {"a": value})

    def test_bound(self):
        for sign, left, right, wanted in (
                ("+", MILLION - 1, 1, MILLION), ("+", MILLION, 1, None), ("+", 1 - MILLION, -1, -MILLION),
                ("+", -MILLION, -1, None), ("-", MILLION, 0, MILLION), ("-", MILLION, -1, None),
                ("-", -MILLION, 0, -MILLION), ("-", -MILLION, 1, None), ("*", 1000, 1000, MILLION),
                ("*", -1000, 1000, -MILLION), ("*", 101, 9901, None), ("*", -101, 9901, None),
                ("+", 5 * MILLION, -5 * MILLION, 0), ("*", 0, 5 * MILLION, 0)):
            found = come_to(f"a {sign} b", {"a": number(left), "b": number(right)})
            self.assertEqual(found, None if wanted is None else number(wanted), (left, sign, right))
        self.assertEqual(101 * 9901, MILLION + 1)
        for worth in (MILLION, -MILLION):
            self.check("-a", number(-worth), {"a": number(worth)})
        for worth in (MILLION + 1, -MILLION - 1):
            self.check("-a", None, {"a": number(worth)})
            # Only results are bounded, and only those of calculations.
            self.check("a", number(worth), {"a": number(worth)})
            self.check("a ?? 1", number(worth), {"a": number(worth)})
            self.check("if yes then a else 1", number(worth), {"a": number(worth)})
            self.check("a = a", YES, {"a": number(worth)})
        self.check("(9999 * 9999) ?? 1", number(1))
        self.check("9999 * 9999 - 9999 * 9999", None)

    def test_bound_of_rows(self):
        for worths, wanted in (((MILLION,), MILLION), ((MILLION, 1), None), ((MILLION + 1,), None),
                               ((-MILLION, -1), None), ((-MILLION, 0), -MILLION), ((MILLION, 1, -1), MILLION)):
            values = {"m": tuple(number(worth) for worth in worths)}
            self.check("sum(m)", None if wanted is None else number(wanted), {}, values)
            self.check("least(m)", number(min(worths)), {}, values)
            self.check("greatest(m)", number(max(worths)), {}, values)

    def test_instead(self):
        for value in ONE_OF_EACH:
            self.check_over("??", {(value, None): value, (None, value): value, (value, number(9)): value})
        self.check_over("??", {(None, None): None, (NO, YES): NO, (number(0), number(1)): number(0)})
        self.check("a ?? b ?? c", number(1), {"c": number(1)})

    def test_if(self):
        for value in ONE_OF_EACH:
            self.check("if yes then a else b", value, {"a": value})
            self.check("if no then a else b", value, {"b": value})
            self.check("if no then a else b", None, {"a": value})
            self.check("if yes then a else b", None, {"b": value})
            self.check("if c then a else a", None, {"a": value})
        for value in ONE_OF_EACH[1:]:
            self.check("if c then 1 else 2", None, {"c": value})

    def test_answered(self):
        for value in ONE_OF_EACH + (NO, number(0), ("options", ()), ("text", "")):
            self.check("answered(a)", YES, {"a": value})
        self.check("answered(a)", NO)
        self.check("answered(a)", NO, {"a": None})
        self.check("answered(a)", NO, {"b": YES}, {"a": (YES,)})

    def test_has(self):
        self.check("has(a, 'o')", YES, {"a": ("options", ("o", "p"))})
        self.check("has(a, 'p')", YES, {"a": ("options", ("o", "p"))})
        self.check("has(a, 'q')", NO, {"a": ("options", ("o", "p"))})
        self.check("has(a, 'o')", NO, {"a": ("options", ())})
        self.check("has(a, 'o')", NO, {"a": ("options", ("oo", "p"))})
        self.check("has(a, 'o')", None)
        for value in (YES, number(3), ("option", "o"), ("text", "o")):
            self.check("has(a, 'o')", None, {"a": value})

    def test_count(self):
        self.check("count(m)", number(0))
        self.check("count(m)", number(0), {"m": YES}, {"m": ()})
        self.check("count(m)", number(3), {}, {"m": (None, YES, number(1))})
        self.check("count(m)", number(2), {}, {"m": (None, None)})

    def test_no_rows(self):
        for rows in ({}, {"m": ()}, {"k": (number(1),)}):
            for function, wanted in (("sum", number(0)), ("least", None), ("greatest", None), ("any", NO), ("all", YES)):
                self.check(f"{function}(m)", wanted, {"m": number(7)}, rows)

    def test_numbers_over_rows(self):
        rows = {"m": (number(4), number(-2), number(9))}
        self.check("sum(m)", number(11), {}, rows)
        self.check("least(m)", number(-2), {}, rows)
        self.check("greatest(m)", number(9), {}, rows)
        for function in ("sum", "least", "greatest"):
            self.check(f"{function}(m)", number(5), {}, {"m": (number(5),)})
            for other in (None, YES, ("text", "4"), ("option", "o"), ("options", ())):
                for place in range(3):
                    values = list(rows["m"])
                    values[place] = other
                    self.check(f"{function}(m)", None, {}, {"m": tuple(values)})
                self.check(f"{function}(m)", None, {}, {"m": (other,)})

    def test_truths_over_rows(self):
        others = (None, number(1), ("text", "yes"), ("option", "o"), ("options", ()))
        for values, found_any, found_all in (
                ((YES,), YES, YES), ((NO,), NO, NO), ((YES, NO), YES, NO), ((NO, NO), NO, NO), ((YES, YES), YES, YES)):
            self.check("any(m)", found_any, {}, {"m": values})
            self.check("all(m)", found_all, {}, {"m": values})
        for other in others:
            for values, found_any, found_all in (
                    ((other,), None, None), ((other, YES), YES, None), ((YES, other), YES, None),
                    ((other, NO), None, NO), ((NO, other), None, NO), ((other, YES, NO), YES, NO)):
                self.check("any(m)", found_any, {}, {"m": values})
                self.check("all(m)", found_all, {}, {"m": values})

    def test_deep_expressions(self):
        chain, nots = ("number", 0), ("name", "a")
        for _ in range(400):
            chain, nots = ("op", "+", chain, ("number", 2)), ("not", nots)
        self.assertEqual(meaning(chain, {}, {}, None), number(800))
        self.assertEqual(meaning(nots, {"a": YES}, {}, None), YES)


class RandomTest(unittest.TestCase):
    def test_beside_the_model(self):
        pick = random.Random(7)
        worths = ONE_OF_EACH + (None, NO, number(0), number(-7), number(999999), number(MILLION), ("options", ()))
        found = set()
        for _ in range(8000):
            shape = random_expression(pick, 3)
            names = {name: pick.choice(worths) for name in ("a", "b", "c", "sum")}
            rows = {name: tuple(pick.choice(worths) for _ in range(pick.randrange(4))) for name in ("a", "b", "b1")}
            at = pick.choice((None, 1, 3))
            before = repr((names, rows))
            value = meaning(shape, names, rows, at)
            self.assertEqual(value, model.value(shape, names, rows, at), shape)
            self.assertEqual(repr((names, rows)), before)
            found.add(value and value[0])
        self.assertEqual(len(found), 6)


if __name__ == "__main__":
    unittest.main()

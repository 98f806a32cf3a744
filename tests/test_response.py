"""r1 to r3, with the lines of j1 and the editions of n1: responses and their edits."""

import unittest

from formflow.errors import BadEdit, BadForm
from formflow.formtext import parse_form
from formflow.reach import report
from formflow.response import Response
from formflow.state import state_at, work_out
from states import HIDDEN, INVALID, NO, NOTHING, YES, number, valued

TEXT = ("section main\nquestion kids; truth; required\nquestion note; text 5\n"
        "section kid; repeats 2; when kids\nquestion age; integer; least 0; greatest 17\nformula fee; is age * 10\n"
        "rule old; is age > 3; says old\nsection end; when kids\nquestion way; choice; option bus; option car when sum(fee) > 50\n"
        "question likes; choices; option a; option b\n")
EMPTY = ((), ())


class EditsTest(unittest.TestCase):
    def setUp(self):
        self.form = parse_form(TEXT)
        self.response = Response("camp", 2, self.form)

    def put(self, name, value, row=""):
        return self.response.put((name, row), value)

    def check_refused(self, reason, method, *arguments):
        """Holds that an edit is refused, and that nothing changes, not even what can be redone."""
        before = repr(self.all_of())
        with self.assertRaises(BadEdit) as caught:
            getattr(self.response, method)(*arguments)
        self.assertEqual(caught.exception.reason, reason, (method, arguments))
        self.assertEqual(repr(self.all_of()), before)

    def all_of(self):
        one = self.response
        return (one.entries(), one.version(), one.state(), one.form(), one.document(), one.replica(), one.journal())

    def check_last(self, line):
        self.assertEqual(self.response.journal().split("\n")[-2:], [line, ""])


class NewTest(EditsTest):
    def test_at_first(self):
        self.assertEqual(self.all_of(), ((), (), work_out(self.form, ()), self.form, "camp", 2, ""))

    def test_form_with_issues(self):
        for text in ("section a\nquestion a; truth\n", "section a\nformula f; is zz\n"):
            with self.assertRaises(BadForm):
                Response("camp", 1, parse_form(text))


class PutTest(EditsTest):
    def test_value(self):
        self.assertEqual(self.put("kids", YES), (
            (("kid", True, ()), ("end", True, ())),
            ((("kids", ""), valued(YES)), (("way", ""), NOTHING), (("likes", ""), NOTHING))))
        self.assertEqual(self.response.entries(), (("kids", "", 1, 2, YES),))
        self.assertEqual(self.response.version(), ((2, 1),))
        self.check_last("put kids yes")

    def test_the_same_value_again(self):
        self.put("kids", YES)
        self.assertEqual(self.put("kids", YES), EMPTY)
        self.assertEqual(self.response.entries(), (("kids", "", 2, 2, YES),))

    def test_values_of_all_kinds(self):
        self.put("kids", YES)
        row = self.response.add("kid")[0]
        for name, at, value, line in (
                ("note", "", ("text", "a b"), 'put note "a b'), ("note", "", ("text", ""), 'put note "'),
                ("note", "", ("text", '"\\\n"'), 'put note ""\\\\\\n"'), ("age", row, number(9), "put age/2x2 9"),
                ("way", "", ("option", "car"), "put way .car"), ("likes", "", ("options", ("a", "b")), "put likes [a,b]"),
                ("likes", "", ("options", ()), "put likes []"), ("kids", "", NO, "put kids no")):
            self.put(name, value, at)
            self.assertIn((name, at, self.response.version()[0][1], 2, value), self.response.entries())
            self.check_last(line)

    def test_no_question(self):
        self.put("kids", YES)
        self.response.add("kid")
        for path in (("none", ""), ("kid", "2x2"), ("main", ""), ("fee", "2x2"), ("old", "2x2"), ("age", ""),
                     ("age", "2x3"), ("kids", "2x2"), ("", "")):
            self.check_refused("no question", "put", path, YES)
            self.check_refused("no question", "clear", path)
            # Whatever the value is: that there is no question comes first.
            self.check_refused("no question", "put", path, None)
        self.put("kids", NO)
        for path in (("age", "2x2"), ("way", ""), ("likes", "")):
            self.check_refused("no question", "put", path, number(3))
            self.check_refused("no question", "clear", path)

    def test_rows_that_are_not_active(self):
        self.put("kids", YES)
        one, other = Response("camp", 1, self.form), self.response
        one.put(("kids", ""), YES)
        rows = [one.add("kid")[0], one.add("kid")[0], other.add("kid")[0]]
        other.merge(one.since(()))
        self.assertEqual(other.state()[0][1], ("kid", True, ("1x2", "2x2")))
        for row in rows:
            if row == "1x3":
                self.check_refused("no question", "put", ("age", row), number(3))
            else:
                self.put("age", number(3), row)

    def test_not_accepted(self):
        self.put("kids", YES)
        self.response.add("kid")
        for path, value in ((("kids", ""), number(1)), (("kids", ""), ("text", "yes")), (("note", ""), ("text", "abcdef")),
                            (("age", "2x2"), number(18)), (("age", "2x2"), number(-1)), (("way", ""), ("option", "car")),
                            (("way", ""), ("option", "none")), (("likes", ""), ("options", ("a", "c")))):
            self.check_refused("not accepted", "put", path, value)

    def test_what_is_no_value(self):
        self.put("kids", YES)
        for thing in (None, True, 7, "yes", (), ("truth",), ("truth", 1), ("truth", True, 1), ["truth", True], ("none", 1)):
            self.check_refused("not accepted", "put", ("kids", ""), thing)
        for thing in (("options", ("b", "a")), ("options", ("a", "a")), ("options", ["a"]), ("options", "a")):
            self.check_refused("not accepted", "put", ("likes", ""), thing)
        form = parse_form("section main\nquestion n; integer\n")
        self.response = Response("camp", 1, form)
        for thing in (number(10000), number(-10000), number("1"), number(True)):
            self.check_refused("not accepted", "put", ("n", ""), thing)


class ClearTest(EditsTest):
    def test_value(self):
        self.put("kids", YES)
        self.put("note", ("text", "x"))
        self.assertEqual(self.response.clear(("note", "")), ((), ((("note", ""), NOTHING),)))
        self.assertEqual(self.response.entries(), (("kids", "", 1, 2, YES), ("note", "", 3, 2, None)))
        self.check_last("clear note")

    def test_where_nothing_is(self):
        self.assertEqual(self.response.clear(("note", "")), EMPTY)
        self.assertEqual(self.response.entries(), (("note", "", 1, 2, None),))
        self.response.clear(("note", ""))
        self.assertEqual(self.response.entries(), (("note", "", 2, 2, None),))
        self.assertEqual(self.response.version(), ((2, 2),))

    def test_in_a_row(self):
        self.put("kids", YES)
        row = self.response.add("kid")[0]
        self.put("age", number(4), row)
        self.assertEqual(self.response.clear(("age", row))[1], (
            (("age", row), NOTHING), (("fee", row), NOTHING), (("old", row), NOTHING)))
        self.check_last("clear age/2x2")

    def test_invalid_answer(self):
        self.put("kids", YES)
        row = self.response.add("kid")[0]
        self.put("age", number(9), row)
        self.put("way", ("option", "car"))
        self.put("age", number(1), row)
        self.assertEqual(state_at(self.response.state(), ("way", "")), INVALID)
        self.assertEqual(self.response.clear(("way", "")), ((), ((("way", ""), NOTHING),)))


class AddTest(EditsTest):
    def test_rows(self):
        self.put("kids", YES)
        self.assertEqual(self.response.add("kid"), ("2x2", (
            (("kid", True, ("2x2",)),),
            ((("age", "2x2"), NOTHING), (("fee", "2x2"), NOTHING), (("old", "2x2"), NOTHING)))))
        self.assertEqual(self.response.add("kid")[0], "2x3")
        self.assertEqual(self.response.entries()[:2], (("kid", "2x2", 2, 2, number(1)), ("kid", "2x3", 3, 2, number(2))))
        self.check_last("add kid")

    def test_no_section(self):
        for name in ("kid", "main", "end", "none", "age", ""):
            self.check_refused("no section", "add", name)
        self.put("kids", YES)
        for name in ("main", "end", "none", "age", "kids", ""):
            self.check_refused("no section", "add", name)

    def test_too_many_rows(self):
        self.put("kids", YES)
        self.response.add("kid")
        row = self.response.add("kid")[0]
        self.check_refused("too many rows", "add", "kid")
        self.response.remove("kid", row)
        self.response.add("kid")
        self.check_refused("too many rows", "add", "kid")
        self.put("kids", NO)
        self.check_refused("no section", "add", "kid")

    def positioned(self, *positions):
        """Merges rows of another replica with these positions, None for removed ones."""
        self.put("kids", YES)
        entries = tuple(("kid", f"1x{at}", at, 1, None if place is None else number(place))
                        for at, place in enumerate(positions, start=1))
        self.response.merge(("camp", (), ((1, 9),), entries))

    def test_behind_the_greatest_position(self):
        for positions, wanted in (((), 1), ((5,), 6), ((-7,), -6), ((0, None), 1), ((-1,), 0), ((9998,), 9999),
                                  ((None,), 1), ((4, None), 5)):
            self.setUp()
            self.positioned(*positions)
            row = self.response.add("kid")[0]
            self.assertIn(("kid", row, 10, 2, number(wanted)), self.response.entries())
            self.assertEqual(self.response.state()[0][1][2][-1], row)

    def test_behind_a_removed_row(self):
        self.put("kids", YES)
        rows = [self.response.add("kid")[0] for _ in range(2)]
        self.response.remove("kid", rows[1])
        row = self.response.add("kid")[0]
        self.assertIn(("kid", row, 5, 2, number(2)), self.response.entries())

    def test_behind_rows_beyond_most(self):
        self.positioned(1, 2, 30)
        self.check_refused("too many rows", "add", "kid")
        self.response.remove("kid", "1x1")
        self.check_refused("too many rows", "add", "kid")
        self.assertEqual(self.response.state()[0][1][2], ("1x2", "1x3"))
        self.response.remove("kid", "1x2")
        row = self.response.add("kid")[0]
        self.assertIn(("kid", row, 12, 2, number(31)), self.response.entries())

    def test_at_the_greatest_position(self):
        self.positioned(9999)
        self.check_refused("too many rows", "add", "kid")
        self.response.order("kid", ("1x1",))
        self.assertEqual(self.response.add("kid")[1][0], (("kid", True, ("1x1", "2x11")),))

    def test_id_has_the_clock(self):
        self.response.merge(("camp", (), ((1, 41),), ()))
        self.put("kids", YES)
        self.assertEqual(self.response.add("kid")[0], "2x43")

    def test_entries_that_are_no_positions(self):
        self.put("kids", YES)
        self.response.merge(("camp", (), ((1, 9),), (("kid", "", 1, 1, number(70)), ("kid", "a", 2, 1, YES))))
        row = self.response.add("kid")[0]
        self.assertIn(("kid", row, 10, 2, number(1)), self.response.entries())


class RemoveTest(EditsTest):
    def test_row(self):
        self.put("kids", YES)
        rows = [self.response.add("kid")[0] for _ in range(2)]
        self.put("age", number(5), rows[0])
        self.assertEqual(self.response.remove("kid", rows[0]), (
            (("kid", True, (rows[1],)),),
            ((("age", "2x2"), HIDDEN), (("fee", "2x2"), HIDDEN), (("old", "2x2"), HIDDEN))))
        self.assertIn(("kid", rows[0], 5, 2, None), self.response.entries())
        # What was answered there is kept.
        self.assertIn(("age", rows[0], 4, 2, number(5)), self.response.entries())
        self.check_last("remove kid 2x2")

    def test_refused(self):
        for name in ("kid", "main", "none", ""):
            self.check_refused("no section", "remove", name, "2x2")
        self.put("kids", YES)
        row = self.response.add("kid")[0]
        for name in ("main", "none", "age"):
            self.check_refused("no section", "remove", name, row)
        for other in ("", "2x3", "2X2", "kid"):
            self.check_refused("no row", "remove", "kid", other)
        self.response.remove("kid", row)
        self.check_refused("no row", "remove", "kid", row)
        self.put("kids", NO)
        self.check_refused("no section", "remove", "kid", row)

    def test_row_beyond_most(self):
        self.put("kids", YES)
        entries = tuple(("kid", row, 1, 1, number(at)) for at, row in enumerate("abc"))
        self.response.merge(("camp", (), ((1, 1),), entries))
        self.check_refused("no row", "remove", "kid", "c")
        self.assertEqual(self.response.remove("kid", "a")[0], (("kid", True, ("b", "c")),))


class OrderTest(EditsTest):
    def rows(self, *positions):
        self.put("kids", YES)
        entries = tuple(("kid", row, 1, 1, number(at)) for at, row in zip(positions, "abcd"))
        self.response.merge(("camp", (), ((1, 1),), entries))

    def test_positions(self):
        self.rows(5, 9)
        self.assertEqual(self.response.order("kid", ("b", "a")), ((("kid", True, ("b", "a")),), ()))
        self.assertEqual(self.response.entries()[:2], (("kid", "a", 2, 2, number(4)), ("kid", "b", 2, 2, number(3))))
        self.check_last("order kid b a")
        self.assertEqual(self.response.order("kid", ("b", "a")), EMPTY)
        self.assertEqual(self.response.entries()[:2], (("kid", "a", 3, 2, number(2)), ("kid", "b", 3, 2, number(1))))

    def test_least_position_of_active_rows(self):
        self.rows(5, 3, 9)
        self.assertEqual(self.response.order("kid", ("a", "b"))[0], (("kid", True, ("a", "b")),))
        self.assertEqual([entry[4] for entry in self.response.entries()[:3]], [number(1), number(2), number(9)])

    def test_no_order(self):
        self.rows(1, 2, 3)
        for rows in ((), ("a",), ("a", "a"), ("a", "b", "b"), ("a", "c"), ("a", "b", "c"), ("a", "d"), ("a", "")):
            self.check_refused("no order", "order", "kid", rows)

    def test_no_section(self):
        for name in ("kid", "main", "none", ""):
            self.check_refused("no section", "order", name, ())
        self.rows(1, 2)
        self.put("kids", NO)
        self.check_refused("no section", "order", "kid", ("b", "a"))

    def test_no_rows(self):
        self.put("kids", YES)
        before = self.response.entries(), self.response.version()
        self.assertEqual(self.response.order("kid", ()), EMPTY)
        self.assertEqual((self.response.entries(), self.response.version()), before)
        self.check_last("order kid")
        self.check_refused("no order", "order", "kid", ("a",))

    def test_least_position_of_all(self):
        self.rows(-9997, -9996)
        self.response.order("kid", ("a", "b"))
        self.assertEqual([entry[4] for entry in self.response.entries()[:2]], [number(-9999), number(-9998)])
        self.check_refused("no order", "order", "kid", ("a", "b"))
        self.check_refused("no order", "order", "kid", ("a",))
        self.setUp()
        self.rows(-9998, 0)
        self.check_refused("no order", "order", "kid", ("b", "a"))
        self.response.remove("kid", "b")
        self.response.order("kid", ("a",))
        self.check_refused("no order", "order", "kid", ("a",))

    def test_told_as_a_list(self):
        self.rows(1, 2)
        rows = ["b", "a"]
        self.response.order("kid", rows)
        self.assertEqual(rows, ["b", "a"])
        self.assertEqual(self.response.state()[0][1][2], ("b", "a"))


class ClocksTest(EditsTest):
    def test_one_more_than_the_greatest(self):
        self.response.merge(("camp", (), ((1, 4), (3, 17), (5, 2)), ()))
        self.put("kids", YES)
        self.assertEqual(self.response.entries(), (("kids", "", 18, 2, YES),))
        self.assertEqual(self.response.version(), ((1, 4), (2, 18), (3, 17), (5, 2)))
        self.put("kids", NO)
        self.assertEqual(self.response.version(), ((1, 4), (2, 19), (3, 17), (5, 2)))

    def test_refused_edits_take_none(self):
        self.put("kids", YES)
        self.check_refused("no question", "put", ("none", ""), YES)
        self.put("kids", YES)
        self.assertEqual(self.response.version(), ((2, 2),))

    def test_clocks_of_many_digits(self):
        self.response.merge(("camp", (), ((1, 10 ** 99),), ()))
        self.put("kids", YES)
        self.assertEqual(self.response.version(), ((1, 10 ** 99), (2, 10 ** 99 + 1)))


class EditionsTest(EditsTest):
    def test_another_form(self):
        self.put("kids", YES)
        self.put("note", ("text", "abcd"))
        row = self.response.add("kid")[0]
        self.put("age", number(9), row)
        before = self.response.entries(), self.response.version(), self.response.journal()
        other = parse_form(TEXT.replace("text 5", "text 3").replace("formula fee; is age * 10\n", "")
                           .replace(" when sum(fee) > 50", ""))
        old = self.response.state()
        told = self.response.change_form(other)
        self.assertEqual(told, ((), ((("note", ""), INVALID), (("fee", row), HIDDEN))))
        self.assertEqual(told, report(self.form, old, other, self.response.state()))
        self.assertEqual((self.response.entries(), self.response.version(), self.response.journal()), before)
        self.assertEqual(self.response.form(), other)
        self.assertEqual(self.response.state(), work_out(other, before[0]))
        self.check_refused("not accepted", "put", ("note", ""), ("text", "abcd"))

    def test_answers_are_kept(self):
        self.put("kids", YES)
        self.put("note", ("text", "abcd"))
        old = self.response.state()
        self.response.change_form(parse_form("section new\nquestion x; truth\n"))
        self.check_refused("no question", "put", ("note", ""), ("text", "a"))
        self.response.put(("x", ""), YES)
        self.assertEqual(self.response.change_form(self.form)[0],
                         (("main", True, ()), ("kid", True, ()), ("end", True, ()), ("new", False, ())))
        self.assertEqual(self.response.state(), old)

    def test_form_with_issues(self):
        self.put("kids", YES)
        before = repr(self.all_of())
        with self.assertRaises(BadForm):
            self.response.change_form(parse_form("section a\nformula f; is zz\n"))
        self.assertEqual(repr(self.all_of()), before)

    def test_same_form(self):
        self.put("kids", YES)
        self.assertEqual(self.response.change_form(self.form), EMPTY)

    def test_merging_behind_it(self):
        other = Response("camp", 1, self.form)
        other.put(("note", ""), ("text", "ab"))
        self.response.change_form(parse_form("section new\nquestion x; truth\n"))
        self.assertEqual(self.response.merge(other.since(())), EMPTY)
        self.assertEqual(self.response.entries(), (("note", "", 1, 1, ("text", "ab")),))
        self.assertEqual(state_at(self.response.state(), ("note", "")), HIDDEN)
        self.response.change_form(self.form)
        self.assertEqual(state_at(self.response.state(), ("note", "")), valued(("text", "ab")))


if __name__ == "__main__":
    unittest.main()

"""j1: journals and replaying them."""

import random
import unittest

from deeds import outcome, random_deed, random_form
from formflow.errors import BadForm, BadJournal
from formflow.formtext import parse_form
from formflow.journal import replay
from formflow.response import Response
from states import NO, YES, number

FORM = parse_form("section main\nquestion t; truth\nquestion n; integer; least 0\nquestion note; text 20\n"
                  "section kid; repeats 3; when t\nquestion age; integer\nquestion likes; choices; option a; option b\n")


def all_of(response):
    return (response.entries(), response.version(), response.state(), response.journal(), response.form(),
            response.document(), response.replica())


class JournalTest(unittest.TestCase):
    def made(self):
        """A response of some deeds, some of them refused, and what it was behind each line."""
        one = Response("camp", 2, FORM)
        stood = [all_of(one)]
        for name, *told in (
                ("put", ("t", ""), YES), ("put", ("n", ""), number(0)), ("put", ("note", ""), ("text", "a b")),
                ("put", ("note", ""), ("text", "\\n \n\"x")), ("put", ("note", ""), ("text", "")), ("clear", ("note", "")),
                ("undo",), ("undo",), ("redo",), ("add", "kid"), ("add", "kid"), ("put", ("age", "2x10"), number(-3)),
                ("put", ("likes", "2x11"), ("options", ("a", "b"))), ("put", ("likes", "2x11"), ("options", ())),
                ("order", "kid", ("2x11", "2x10")), ("clear", ("age", "2x10")), ("remove", "kid", "2x10"),
                ("order", "kid", ("2x11",)), ("remove", "kid", "2x11"), ("order", "kid", ()), ("undo",), ("undo",),
                ("redo",), ("put", ("t", ""), NO), ("put", ("n", ""), number(9999))):
            getattr(one, name)(*told)
            stood.append(all_of(one))
        return one, stood

    def test_lines(self):
        self.assertEqual(self.made()[0].journal().split("\n"), [
            "put t yes", "put n 0", 'put note "a b', 'put note "\\\\n \\n"x', 'put note "', "clear note", "undo", "undo", "redo",
            "add kid", "add kid", "put age/2x10 -3", "put likes/2x11 [a,b]", "put likes/2x11 []", "order kid 2x11 2x10",
            "clear age/2x10", "remove kid 2x10", "order kid 2x11", "remove kid 2x11", "order kid", "undo", "undo", "redo",
            "put t no", "put n 9999", ""])

    def test_whole_and_beginnings(self):
        one, stood = self.made()
        text = one.journal()
        self.assertEqual(all_of(replay("camp", 2, FORM, text)), stood[-1])
        for at in range(len(text) + 1):
            self.assertEqual(all_of(replay("camp", 2, FORM, text[:at])), stood[text[:at].count("\n")])

    def test_what_can_be_undone_is_as_it_was(self):
        one, _ = self.made()
        made = replay("camp", 2, FORM, one.journal())
        while one.undo() is not None:
            self.assertIsNotNone(made.undo())
            self.assertEqual(all_of(made), all_of(one))
        self.assertIsNone(made.undo())

    def test_nothing(self):
        self.assertEqual(all_of(replay("camp", 3, FORM, "")), all_of(Response("camp", 3, FORM)))

    def test_another_replica_and_document(self):
        made = replay("trip", 5, FORM, "put t yes\nadd kid\n")
        self.assertEqual(made.state()[0][1], ("kid", True, ("5x2",)))
        self.assertEqual((made.document(), made.replica()), ("trip", 5))
        # The rows have other ids there.
        with self.assertRaises(BadJournal):
            replay("trip", 5, FORM, "put t yes\nadd kid\nput age/2x2 1\n")

    def test_form_with_issues(self):
        for text in ("", "nothing\n", "put t yes\n"):
            with self.assertRaises(BadForm):
                replay("camp", 1, parse_form("section s\nformula f; is zz\n"), text)

    def test_merged_ones_and_refused_ones_are_no_lines(self):
        one, two = Response("camp", 1, FORM), Response("camp", 2, FORM)
        two.put(("t", ""), YES)
        one.merge(two.since(()))
        one.change_form(parse_form("section s\nquestion x; truth\n"))
        one.put(("x", ""), YES)
        self.assertEqual(one.journal(), "put x yes\n")
        self.assertIsNone(one.redo())
        self.assertEqual(one.journal(), "put x yes\n")


class RandomTest(unittest.TestCase):
    def test_journals_cut_at_any_character(self):
        pick = random.Random(34)
        for _ in range(25):
            form = random_form(pick)
            response = Response("camp", 5, form)
            stood = [all_of(response)]
            for _ in range(25):
                outcome(response, random_deed(pick, response))
                if response.journal().count("\n") == len(stood):
                    stood.append(all_of(response))
            text = response.journal()
            for at in range(len(text) + 1):
                made = replay("camp", 5, form, text[:at])
                self.assertEqual(all_of(made), stood[text[:at].count("\n")])
            self.check_undone_alike(made, response)

    def check_undone_alike(self, one, other):
        """What can be undone and redone is the same, too."""
        for deed in ["redo"] * 3 + ["undo"] * 30 + ["redo"] * 30:
            self.assertEqual(getattr(one, deed)(), getattr(other, deed)())
        self.assertEqual(all_of(one), all_of(other))


class RefusedTest(unittest.TestCase):
    AHEAD = "put t yes\nadd kid\nadd kid\nput age/1x2 4\nundo\n"

    def check(self, text, place):
        with self.assertRaises(BadJournal) as caught:
            replay("camp", 1, FORM, text)
        self.assertEqual(caught.exception.place, place, text)

    def check_line(self, line):
        self.check(f"{line}\n", 1)
        self.check(f"{self.AHEAD}{line}\n", 6)
        self.check(f"{self.AHEAD}{line}\nput t no\nnothing\n", 6)
        # Without its newline it is no whole line.
        self.assertEqual(replay("camp", 1, FORM, self.AHEAD + line).journal(), self.AHEAD)

    def test_no_lines(self):
        for line in ("", " ", "nothing", "Put t yes", "PUT t yes", "puts t yes", "put", "clear", "add", "remove", "order", "put ",
                     "clear ", "add ", "remove ", "order ", "undone", "undo 1", "redo redo", "undo\r", "merge", "t yes", "put t",
                     "remove kid", "put yes", "undoredo", "/", "put /", "clear /"):
            self.check_line(line)

    def test_another_writing(self):
        for line in (" put t yes", "put  t yes", "put t  yes", "put t yes ", "put\tt yes", "clear  t", "clear t ", " clear t",
                     "clear t yes", "add  kid", "add kid ", " add kid", "add kid 1x2", "remove kid  1x2", "remove kid 1x2 ",
                     "remove  kid 1x2", "remove kid 1x2 1x3", "order kid 1x3  1x2", "order kid 1x3 1x2 ", "order  kid 1x3 1x2",
                     "order kid  1x3 1x2", " undo", "undo ", " redo", "redo ", "put t/ yes", "clear t/", "put age/1x2/ 4",
                     "put age//1x2 4", "put age 1x2 4", "put age/1x2 04", "put age/1x2 +4", "put t/- yes", "clear note/ "):
            self.check_line(line)

    def test_codes_that_are_none(self):
        for line in ("put t Yes", "put t 'yes'", "put t true", "put t ", "put n 01", "put n -0", "put n 1.0", "put n x",
                     "put n 10000", "put n " + "9" * 5000, "put likes/1x2 [b,a]", "put likes/1x2 [a, b]", "put likes/1x2 [a",
                     'put note "\\', 'put note "\\x', "put note abc", 'put note "\\\\\\', "put likes/1x2 a,b", "put t yes\\n"):
            self.check_line(line)

    def test_refused_edits(self):
        for line in ("put zz yes", "put kid yes", "put age 4", "put age/1x9 4", "put age/1x9 yes", "put n -1", "put t 1",
                     'put note "' + "x" * 21, "put likes/1x2 [c]", "clear zz", "clear age", "clear age/1x9", "add main", "add zz",
                     "remove kid 1x9", "remove main 1x2", "order kid 1x2", "order kid 1x2 1x2", "order kid", "order main",
                     "order kid 1x2 1x3 1x9", "put t/1x2 yes"):
            self.check_line(line)
        self.check("add kid\n", 1)
        self.check("put t yes\nadd kid\nadd kid\nadd kid\nadd kid\n", 5)
        self.check("put t yes\nadd kid\nput t no\nput age/1x2 4\n", 4)

    def test_undo_and_redo_of_nothing(self):
        self.check("undo\n", 1)
        self.check("redo\n", 1)
        self.check("put t yes\nredo\n", 2)
        self.check("put t yes\nundo\nundo\n", 3)
        self.check("put t yes\nundo\nredo\nredo\n", 4)
        self.check("put t yes\nundo\nput n 1\nredo\n", 4)
        self.check("clear t\n" * 21 + "undo\n" * 21, 42)
        self.assertEqual(replay("camp", 1, FORM, "clear t\n" * 21 + "undo\n" * 20).version(), ((1, 41),))

    def test_other_ends_of_lines(self):
        self.check("put t yes\r\nadd kid\n", 1)
        self.assertEqual(replay("camp", 1, FORM, "put t yes\radd kid").journal(), "")


if __name__ == "__main__":
    unittest.main()

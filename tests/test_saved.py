"""w1 to w3: saved texts."""

import random
import unittest

from deeds import outcome, random_deed, random_form
from formflow.errors import BadForm, BadSaved
from formflow.formtext import parse_form
from formflow.response import Response
from formflow.saved import check_sum, load, save
from formflow.state import work_out
from states import NO, YES, number

FORM = parse_form("section main\nquestion t; truth; required\nquestion name; text 9\nsection kid; repeats 2; when t\n"
                  "question age; integer\nquestion likes; choices; option a; option b\nquestion way; choice; option bus\n")


def sum_of(text):
    found = 7
    for sign in text:
        found = (31 * found + ord(sign) + 1) % 1000003
    return found


def with_check(text):
    return f"{text}check {sum_of(text)}\n"


class SumTest(unittest.TestCase):
    def test_check_sum(self):
        self.assertEqual(check_sum(""), 7)
        self.assertEqual(check_sum("a"), 7 * 31 + 97 + 1)
        self.assertEqual(check_sum("a\n"), (7 * 31 + 98) * 31 + 11)
        self.assertEqual(check_sum("\u20ac"), 217 + 0x20ac + 1)
        for text in ("response camp\nversion\n", "ab" * 400, "\x00\n\U0001f600", "ba"):
            self.assertEqual(check_sum(text), sum_of(text))
            self.assertTrue(0 <= check_sum(text) < 1000003)
        self.assertNotEqual(check_sum("ab"), check_sum("ba"))


class SaveTest(unittest.TestCase):
    def setUp(self):
        self.one = Response("camp", 1, FORM)

    def check(self, *lines):
        """Holds the lines of the saved text, but that of the check."""
        text = "".join(line + "\n" for line in lines)
        self.assertEqual(save(self.one), with_check(text))

    def test_of_nothing(self):
        self.check("response camp", "version")

    def test_entries(self):
        self.one.put(("t", ""), YES)
        row = self.one.add("kid")[0]
        self.one.put(("age", row), number(-12))
        self.one.put(("likes", row), ("options", ("a", "b")))
        self.one.put(("way", row), ("option", "bus"))
        self.one.clear(("name", ""))
        self.check("response camp", "version 1:6", "age 1x2 3 1 -12", "kid 1x2 2 1 1", "likes 1x2 4 1 [a,b]",
                   "name - 6 1", "t - 1 1 yes", "way 1x2 5 1 .bus")

    def test_texts(self):
        for text, written in (("", '"'), ("a b", '"a b'), ("\n", '"\\n'), ("\\", '"\\\\'), ("\\n", '"\\\\n'),
                              ("\n\\\n", '"\\n\\\\\\n'), ('"', '""'), (" ", '" '), ("\r\t", '"\r\t'), ("\u20ac", '"\u20ac')):
            self.setUp()
            self.one.put(("name", ""), ("text", text))
            self.check("response camp", "version 1:1", f"name - 1 1 {written}")
            self.assertEqual(load(save(self.one), 1, FORM).entries(), self.one.entries())

    def test_version_of_many(self):
        self.one.merge(("camp", (), ((2, 7), (5, 12)), (("t", "", 12, 5, NO),)))
        self.one.put(("name", ""), ("text", "x"))
        self.check("response camp", "version 1:13 2:7 5:12", 'name - 13 1 "x', "t - 12 5 no")

    def test_is_no_edit(self):
        self.one.put(("t", ""), YES)
        before = (self.one.entries(), self.one.version(), self.one.state(), self.one.journal())
        save(self.one)
        self.assertEqual((self.one.entries(), self.one.version(), self.one.state(), self.one.journal()), before)


class LoadTest(unittest.TestCase):
    def test_what_is_loaded(self):
        one = Response("camp", 1, FORM)
        one.put(("t", ""), YES)
        one.undo()
        one.redo()
        one.put(("name", ""), ("text", "a\n"))
        for replica in (1, 4):
            found = load(save(one), replica, FORM)
            self.assertIs(type(found), Response)
            self.assertEqual((found.document(), found.replica(), found.form()), ("camp", replica, FORM))
            self.assertEqual((found.entries(), found.version(), found.state()), (one.entries(), one.version(), one.state()))
            self.assertEqual(found.journal(), "")
            self.assertIsNone(found.undo())
            self.assertIsNone(found.redo())
            found.put(("t", ""), NO)
            self.assertIn(("t", "", 5, replica, NO), found.entries())
            self.assertIsNotNone(found.undo())
            self.assertIsNone(found.undo())

    def test_for_another_form(self):
        one = Response("camp", 1, FORM)
        one.put(("t", ""), YES)
        form = parse_form("section s\nquestion x; truth\n")
        found = load(save(one), 2, form)
        self.assertEqual(found.entries(), one.entries())
        self.assertEqual(found.state(), work_out(form, one.entries()))
        found.change_form(FORM)
        self.assertEqual(found.state(), one.state())

    def test_form_with_issues(self):
        form = parse_form("section s\nformula f; is zz\n")
        for text in (save(Response("camp", 1, FORM)), "", "nothing\n"):
            with self.assertRaises(BadForm):
                load(text, 1, form)

    def test_random_ones(self):
        pick = random.Random(36)
        for _ in range(30):
            form = random_form(pick)
            one = Response("camp", 2, form)
            for _ in range(20):
                outcome(one, random_deed(pick, one))
            text = save(one)
            self.assertEqual(save(load(text, 3, form)), text)
            # A character more, less or other than it was is never taken.
            for _ in range(20):
                at = pick.randrange(len(text))
                sign = pick.choice("a1 \n-:x")
                for broken in (text[:at] + text[at + 1:], text[:at] + sign + text[at:], text[:at] + sign + text[at + 1:],
                               text[:at]):
                    if broken != text:
                        with self.assertRaises(BadSaved) as caught:
                            load(broken, 3, form)
                        self.assertTrue(1 <= caught.exception.line <= broken.count("\n") + 1)


class RefusedTest(unittest.TestCase):
    HEAD = "response camp\nversion 1:9 3:20\n"
    ENTRIES = "age 1x2 3 1 -12\nkid 1x2 2 1 1\nname - 6 3\nt - 1 1 yes\n"

    def check(self, text, line):
        with self.assertRaises(BadSaved) as caught:
            load(text, 2, FORM)
        self.assertEqual(caught.exception.line, line, text)

    def check_line(self, line, number=3, ahead=HEAD, behind=""):
        """Holds that a line is wrong, whatever the check is."""
        text = f"{ahead}{line}\n{behind}"
        self.check(with_check(text), number)
        self.check(text, number)
        self.check(text[:-1], number)

    def check_right(self, text):
        self.assertEqual(save(load(with_check(text), 2, FORM)), with_check(text))

    def test_right_ones(self):
        self.check_right("response camp\nversion\n")
        self.check_right(self.HEAD)
        self.check_right(self.HEAD + self.ENTRIES)
        self.check_right("response a\nversion 1:1 2:1 3:1 4:1 5:1 6:" + "9" * 100 + "\nx - 1" + "0" * 99 + " 6\n")
        for row in ("a", "1", "0", "abcdefgh", "12345678", "-"):
            self.check_right(f"{self.HEAD}x {row} 9 1 yes\n")
        for code in ("yes", "no", "0", "-1", "9999", "-9999", ".a", ".check", "[]", "[a]", "[a,b9]", '"', '" ', '"\\n', '"\\\\',
                     '"check 5', '"' + "x" * 999):
            self.check_right(f"{self.HEAD}x - 9 1 {code}\n")

    def test_document(self):
        for line in ("response", "response ", "response Camp", "response 1camp", "response camps99", "response if",
                     " response camp", "response  camp", "response camp ", "Response camp", "responsecamp", "", "version",
                     "response row", "response camp trip", "check 5"):
            self.check_line(line, 1, "", "version 1:9 3:20\n")

    def test_version(self):
        for line in ("version ", "version  1:9", "version 1:9  3:20", "version 1:9 ", "version 3:20 1:9", "version 1:9 1:9",
                     "version 1:8 1:9", "version 0:9", "version 7:9", "version 1:0", "version 01:9", "version 1:09",
                     "version 1", "version 1:", "version :9", "version 1:9:3", "version 1:-9", "version a:9", "version 1:9,3:20",
                     "version 1:1" + "0" * 100, "version 1" + "0" * 100 + ":1", "version 10:1", "Version 1:9", "", "versions 1:9",
                     "version 1:\u0661", "check 5", "response camp", "version 1:" + "9" * 5000):
            self.check_line(line, 2, "response camp\n")

    def test_names_and_rows(self):
        for line in ("", " ", "x", "x -", "x - 1", "X - 1 1", "1x - 1 1", "toolong - 1 1", "if - 1 1", "row - 1 1", " - 1 1",
                     "x  1 1", "x -- 1 1", "x A 1 1", "x 123456789 1 1", "x a-b 1 1", "x a.b 1 1 yes", " x - 1 1", "x  - 1 1",
                     "x - 1  1", "x -  1 1", "x \u00e4 1 1", "\u00e4 - 1 1", "version 1:9", "checks 12", "check", "check -5"):
            self.check_line(line)

    def test_clocks_and_replicas(self):
        for line in ("x - 0 1", "x - 01 1", "x - -1 1", "x - 1.0 1", "x - a 1", "x - 1 0", "x - 1 7", "x - 1 01", "x - 1 a",
                     "x - 1 -1", "x - 1 11", "x - 1" + "0" * 100 + " 1", "x - \u0661 1", "x - +1 1", "x - " + "9" * 5000 + " 1"):
            self.check_line(line)
            self.check_line(line + " yes")

    def test_codes(self):
        for code in ("", " ", "Yes", "true", "-0", "01", "-01", "+1", "1.5", "10000", "-10000", "99999", ".", ".A", ".if", "[",
                     "[a", "a]", "[b,a]", "[a,a]", "[a, b]", "[,]", "[if]", "'a'", "yes ", " yes", "no no", "x",
                     "1" * 101, "\\n", "yes\\n", '\\\\"a', "\u0661"):
            self.check_line(f"x - 1 1 {code}")

    def test_escapes(self):
        for code in ('"\\', '"a\\', '"\\a', '"\\"', '"\\\\\\', '"\\N', '"\\ n', '"\\t', '"\\r', '"a\\\\\\b'):
            self.check_line(f"x - 1 1 {code}")

    def test_order(self):
        lines = ["b - 9 1", "b 1 1 1", "b 1x10 1 1", "b 1x2 1 1", "c - 1 1", "c a 1 1"]
        self.check_right(self.HEAD + "".join(line + "\n" for line in lines))
        for at, line in enumerate(lines):
            for ahead in lines[at:]:
                self.check_line(line, 4, f"{self.HEAD}{ahead}\n")
                self.check_line(f"{line} yes", 4, f"{self.HEAD}{ahead}\n")
        # Each is held against the one ahead of it, and against its path alone.
        for line in ("b - 1 1", "b a 1 1", "c - 1 1", "c 2 1 1", "c 2 9 1", "c 2 9 3 yes", "c 1x2 1 1"):
            self.check_line(line, 5, f"{self.HEAD}a - 1 1\nc 2 5 1\n")

    def test_covered(self):
        for line in ("x - 10 1", "x - 21 3", "x - 1 2", "x - 1 6"):
            self.check_line(line)
        self.check_line("x - 10 1", 6, self.HEAD + "age 1x2 3 1 -12\nkid 1x2 2 1 1\nname - 6 3\n", "y - 1 1\n")
        self.check_line("x - 1 1", 3, "response camp\nversion\n")

    def test_first_one_counts(self):
        self.check("camp\nversions\nx\ncheck 0\nmore", 1)
        self.check("response camp\nversions\nx\ncheck 0\nmore", 2)
        self.check("response camp\nversion\nx\ncheck 0\nmore", 3)
        self.check("response camp\nversion\ncheck 0\nmore", 3)

    def test_check(self):
        text = self.HEAD + self.ENTRIES
        right = with_check(text)[len(text):-1]
        for line in ("check 0", f"check {sum_of(text) + 1}", f"{right}0", f"check {sum_of(text + right)}", "check 0" + right[6:],
                     right + " ", " " + right, right.upper(), right.replace(" ", "  "), "check", "check ", "check x",
                     f"check {sum_of(text) + 1000003}", f"check {sum_of(text[:-1])}", right + " 5"):
            self.check(f"{text}{line}\n", 7)
            self.check(f"{text}{line}", 7)
            self.check(f"{text}{line}\n{right}\n", 7)

    def test_entries_that_are_called_check(self):
        self.check_right(f"{self.HEAD}check - 5 1\ncheck 1x2 5 1 yes\n")

    def test_behind_the_check(self):
        text = with_check(self.HEAD + self.ENTRIES)
        for more in ("\n", "x", "x\n", "x - 1 1\n", "check 5\n", text, " ", "\n\n"):
            self.check(text + more, 8)
        self.check(with_check(text), 8)

    def test_without_the_last_newline(self):
        text = with_check(self.HEAD + self.ENTRIES)
        self.check(text[:-1], 7)

    def test_that_ends_too_early(self):
        text = with_check(self.HEAD + self.ENTRIES)
        lines = text.split("\n")[:-1]
        for count in range(len(lines)):
            # The line that lacks, or what there is of it.
            ahead = "".join(line + "\n" for line in lines[:count])
            self.check(ahead, count + 1)
            self.check(ahead + lines[count], count + 1)
            self.check(ahead + lines[count][:3], count + 1)
        self.check("", 1)

    def test_other_ends_of_lines(self):
        self.check(with_check(self.HEAD).replace("\n", "\r\n"), 1)
        self.check(with_check("response camp\rversion\n"), 1)
        self.check(with_check("response camp\nversion\x0c\n"), 2)


if __name__ == "__main__":
    unittest.main()

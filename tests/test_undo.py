"""r4 and r5: undo and redo, and the very entries."""

import unittest

from formflow.errors import BadEdit
from formflow.formtext import parse_form
from formflow.response import Response
from states import NO, NOTHING, YES, number, valued

FORM = parse_form("section main\nquestion x; integer\nquestion y; integer\nquestion t; truth\n"
                  "section kid; repeats 3\nquestion age; integer; when t\n")
EMPTY = ((), ())
X, Y = ("x", ""), ("y", "")


class UndoTest(unittest.TestCase):
    def setUp(self):
        self.one = Response("camp", 1, FORM)
        self.other = Response("camp", 2, FORM)

    def put(self, *worths):
        for worth in worths:
            self.one.put(X, number(worth))

    def value(self, path=X, response=None):
        """The value of the entry at a path; "nothing" where there is none."""
        found = {entry[:2]: entry[4] for entry in (response or self.one).entries()}
        value = found.get(path, "nothing")
        return value[1] if isinstance(value, tuple) else value

    def send(self, one, other):
        other.merge(one.since(other.version()))

    def check(self, *steps):
        """Holds the value at x behind each step: pairs (undo or redo, value)."""
        for name, wanted in steps:
            self.assertIsNotNone(getattr(self.one, name)(), steps)
            self.assertEqual(self.value(), wanted, steps)

    def check_written(self, wanted, name):
        """Holds whether an undo or redo writes something."""
        version, journal = self.one.version(), self.one.journal()
        entries, state = self.one.entries(), self.one.state()
        told = getattr(self.one, name)()
        self.assertEqual(self.one.journal(), journal + name + "\n")
        self.assertEqual(self.one.version() != version, wanted)
        if not wanted:
            self.assertEqual((told, self.one.entries(), self.one.state()), (EMPTY, entries, state))


class StepsTest(UndoTest):
    def test_one_edit(self):
        self.put(5)
        self.assertEqual(self.one.undo(), ((), ((X, NOTHING),)))
        self.assertEqual(self.one.entries(), (("x", "", 2, 1, None),))
        self.assertEqual(self.one.version(), ((1, 2),))
        self.assertEqual(self.one.redo(), ((), ((X, valued(number(5))),)))
        self.assertEqual(self.one.entries(), (("x", "", 3, 1, number(5)),))
        self.assertEqual(self.one.journal(), "put x 5\nundo\nredo\n")

    def test_nothing_to_undo_or_redo(self):
        self.assertIsNone(self.one.undo())
        self.assertIsNone(self.one.redo())
        self.put(5)
        self.assertIsNone(self.one.redo())
        self.one.undo()
        self.assertIsNone(self.one.undo())
        self.one.redo()
        self.assertIsNone(self.one.redo())
        self.assertEqual(self.one.journal(), "put x 5\nundo\nredo\n")
        self.assertEqual(self.one.version(), ((1, 3),))

    def test_back_and_on(self):
        self.put(1, 2, 3)
        self.check(("undo", 2), ("undo", 1), ("redo", 2), ("undo", 1), ("undo", None), ("redo", 1), ("redo", 2),
                   ("redo", 3), ("undo", 2), ("redo", 3))
        self.assertIsNone(self.one.redo())

    def test_the_same_value_again(self):
        self.put(1, 1)
        self.check(("undo", 1), ("undo", None), ("redo", 1), ("redo", 1))

    def test_clear(self):
        self.one.clear(X)
        self.put(1)
        self.one.clear(X)
        self.check(("undo", 1), ("undo", None), ("undo", None), ("redo", None), ("redo", 1), ("redo", None))
        self.assertEqual(self.one.version(), ((1, 9),))

    def test_new_edit_forgets_what_was_undone(self):
        self.put(1, 2)
        self.one.undo()
        self.put(3)
        self.assertIsNone(self.one.redo())
        self.check(("undo", 1), ("undo", None))
        self.assertIsNone(self.one.undo())
        self.check(("redo", 1), ("redo", 3))

    def test_refused_edit_forgets_nothing(self):
        self.put(1)
        self.one.undo()
        with self.assertRaises(BadEdit):
            self.one.put(X, YES)
        with self.assertRaises(BadEdit):
            self.one.remove("kid", "1x1")
        self.check(("redo", 1))

    def test_edit_behind_an_undo_at_the_same_path(self):
        self.put(1)
        self.one.undo()
        self.put(2)
        self.check(("undo", None), ("redo", 2), ("undo", None))

    def test_other_paths_are_left(self):
        self.put(1)
        self.one.put(Y, number(7))
        self.one.undo()
        self.assertEqual((self.value(X), self.value(Y)), (1, None))
        self.one.undo()
        self.assertEqual((self.value(X), self.value(Y)), (None, None))

    def test_hidden_paths(self):
        self.one.put(("t", ""), YES)
        row = self.one.add("kid")[0]
        self.one.put(("age", row), number(3))
        self.other.merge(self.one.since(()))
        self.other.put(("t", ""), NO)
        self.send(self.other, self.one)
        # The age is hidden, but its entry is still the very one.
        self.assertEqual(self.one.undo(), EMPTY)
        self.assertIsNone(self.value(("age", row)))
        self.assertEqual(self.one.redo(), EMPTY)
        self.assertEqual(self.value(("age", row)), 3)


class SectionsTest(UndoTest):
    def test_add(self):
        row, _ = self.one.add("kid")
        self.assertEqual(self.one.undo(), ((("kid", True, ()),), ()))
        self.assertEqual(self.one.entries(), (("kid", row, 2, 1, None),))
        self.assertEqual(self.one.add("kid")[0], "1x3")
        self.one.undo()
        self.assertEqual(self.one.redo()[0], (("kid", True, ("1x3",)),))

    def test_remove(self):
        rows = [self.one.add("kid")[0] for _ in range(3)]
        self.one.remove("kid", rows[1])
        self.assertEqual(self.one.undo()[0], (("kid", True, tuple(rows)),))
        self.assertEqual(self.one.redo()[0], (("kid", True, (rows[0], rows[2])),))

    def test_order(self):
        rows = [self.one.add("kid")[0] for _ in range(3)]
        self.one.order("kid", (rows[2], rows[0], rows[1]))
        self.assertEqual(self.one.undo()[0], (("kid", True, tuple(rows)),))
        # All with one clock.
        self.assertEqual({entry[2] for entry in self.one.entries()}, {5})
        self.assertEqual(self.one.redo()[0], (("kid", True, (rows[2], rows[0], rows[1])),))
        self.assertEqual({entry[2] for entry in self.one.entries()}, {6})

    def test_another_entry_at_one_of_the_paths(self):
        rows = [self.one.add("kid")[0] for _ in range(2)]
        self.one.order("kid", tuple(reversed(rows)))
        self.send(self.one, self.other)
        self.other.remove("kid", rows[0])
        self.send(self.other, self.one)
        self.one.undo()
        found = {entry[1]: entry for entry in self.one.entries()}
        self.assertEqual(found, {rows[0]: ("kid", rows[0], 4, 2, None), rows[1]: ("kid", rows[1], 5, 1, number(2))})
        # The removed row is left again; the other one still counts as the entry ahead of the edit.
        self.one.redo()
        found = {entry[1]: entry for entry in self.one.entries()}
        self.assertEqual(found, {rows[0]: ("kid", rows[0], 4, 2, None), rows[1]: ("kid", rows[1], 6, 1, number(-1))})

    def test_all_are_gone(self):
        rows = [self.one.add("kid")[0] for _ in range(2)]
        self.one.order("kid", tuple(reversed(rows)))
        self.send(self.one, self.other)
        self.other.order("kid", tuple(rows))
        self.send(self.other, self.one)
        self.check_written(False, "undo")
        self.check_written(False, "undo")
        self.check_written(False, "undo")
        self.assertIsNone(self.one.undo())
        self.check_written(False, "redo")

    def test_order_of_no_rows(self):
        self.one.put(X, number(1))
        self.one.undo()
        self.one.order("kid", ())
        # It is an edit: what was undone is forgotten, and it can be undone itself.
        self.assertIsNone(self.one.redo())
        self.check_written(False, "undo")
        self.assertIsNone(self.one.undo())
        self.check_written(False, "redo")
        self.assertEqual(self.one.journal(), "put x 1\nundo\norder kid\nundo\nredo\n")


class LimitTest(UndoTest):
    def undone(self):
        count = 0
        while self.one.undo() is not None:
            count += 1
        return count

    def test_the_last_20(self):
        for count in (19, 20, 21, 45):
            self.setUp()
            self.put(*range(1, count + 1))
            self.assertEqual(self.undone(), min(count, 20))
            self.assertEqual(self.value(), count - 20 if count > 20 else None)
            for worth in range(max(count - 20, 0) + 1, count + 1):
                self.check(("redo", worth))
            self.assertIsNone(self.one.redo())
            self.assertEqual(self.undone(), min(count, 20))

    def test_what_was_undone_does_not_count(self):
        self.put(*range(1, 21))
        for _ in range(5):
            self.one.undo()
        self.put(30)
        # The first 15 and the new one.
        self.assertEqual(self.undone(), 16)
        self.assertIsNone(self.value())

    def test_an_edit_that_can_no_more_be_undone_stays_so(self):
        self.put(*range(1, 23))
        self.one.undo()
        self.one.undo()
        self.put(30)
        self.assertEqual(self.undone(), 19)
        self.assertEqual(self.value(), 2)

    def test_redoing_is_no_edit(self):
        self.put(*range(1, 21))
        for _ in range(3):
            self.one.undo()
        for _ in range(3):
            self.one.redo()
        self.assertEqual(self.undone(), 20)

    def test_edits_of_no_rows_count(self):
        self.put(1)
        for _ in range(20):
            self.one.order("kid", ())
        self.assertEqual(self.undone(), 20)
        self.assertEqual(self.value(), 1)


class VeryEntryTest(UndoTest):
    def test_another_value_of_another_replica(self):
        self.put(1)
        self.send(self.one, self.other)
        self.other.put(X, number(2))
        self.send(self.other, self.one)
        self.check_written(False, "undo")
        self.assertEqual(self.value(), 2)
        self.check_written(False, "redo")
        self.assertEqual(self.value(), 2)

    def test_the_same_value_of_another_replica(self):
        self.put(1)
        self.send(self.one, self.other)
        self.other.put(X, number(1))
        self.send(self.other, self.one)
        self.check_written(False, "undo")
        self.assertEqual(self.one.entries(), (("x", "", 2, 2, number(1)),))

    def test_the_same_value_by_an_edit(self):
        self.put(1, 2, 1)
        # The first edit is not undone by the undo of the last: that brings back the very 2.
        self.check(("undo", 2), ("undo", 1), ("undo", None))

    def test_value_of_another_replica_is_brought_back(self):
        self.other.put(X, number(9))
        self.send(self.other, self.one)
        self.put(1)
        self.check(("undo", 9))
        self.assertEqual(self.one.entries(), (("x", "", 3, 1, number(9)),))
        self.check(("redo", 1), ("undo", 9))

    def test_none_of_another_replica_is_not_nothing(self):
        self.put(1)
        self.one.undo()
        self.send(self.one, self.other)
        self.other.clear(X)
        self.send(self.other, self.one)
        self.check_written(False, "redo")
        self.assertEqual(self.one.entries(), (("x", "", 3, 2, None),))

    def test_none_of_another_replica_is_brought_back(self):
        self.other.clear(X)
        self.send(self.other, self.one)
        self.put(1)
        self.check(("undo", None), ("redo", 1), ("undo", None))
        self.send(self.one, self.other)
        self.other.clear(X)
        self.send(self.other, self.one)
        self.check_written(False, "redo")

    def test_redo_where_nothing_stood(self):
        self.put(1)
        self.one.undo()
        self.check_written(True, "redo")
        self.assertEqual(self.value(), 1)
        # Something of another replica that is older, but was written there, changes nothing.
        self.setUp()
        self.put(1)
        self.one.undo()
        self.other.put(X, number(8))
        self.send(self.other, self.one)
        self.assertIsNone(self.value())
        self.check_written(True, "redo")
        self.assertEqual(self.value(), 1)

    def test_undo_where_something_older_came(self):
        self.one.put(Y, number(1))
        self.put(1)
        self.other.put(X, number(8))
        self.send(self.other, self.one)
        # Nothing stood there ahead of the edit, whatever came since.
        self.check(("undo", None), ("redo", 1))

    def test_merging_forgets_nothing(self):
        self.put(1, 2)
        self.one.undo()
        self.other.put(Y, number(3))
        self.send(self.other, self.one)
        self.check(("redo", 2), ("undo", 1), ("undo", None))
        self.assertEqual(self.value(Y), 3)
        self.assertIsNone(self.one.undo())

    def test_undo_undo_redo_undo_amid_merging(self):
        self.put(1, 2)
        self.check(("undo", 1))
        self.send(self.one, self.other)
        self.check(("undo", None))
        # What the other one has does not take the place of what is newer here.
        self.send(self.other, self.one)
        self.check(("redo", 1))
        self.send(self.one, self.other)
        self.other.put(X, number(7))
        self.send(self.other, self.one)
        self.check_written(False, "undo")
        self.assertEqual(self.value(), 7)
        self.check_written(False, "redo")
        self.check_written(False, "redo")
        self.assertEqual(self.value(), 7)

    def test_entry_that_was_brought_back_and_then_replaced(self):
        self.put(1, 2)
        self.check(("undo", 1))
        self.send(self.one, self.other)
        self.other.put(X, number(1))
        self.send(self.other, self.one)
        # It is another entry with the same value.
        self.check_written(False, "redo")
        self.check_written(False, "undo")
        self.check_written(False, "undo")
        self.assertIsNone(self.one.undo())

    def test_edit_over_what_was_brought_back(self):
        self.put(1, 2)
        self.one.undo()
        self.put(3)
        # What stood ahead of the 3 counts as the very 1, and so the first edit can be undone behind it.
        self.check(("undo", 1), ("undo", None), ("redo", 1), ("redo", 3))

    def test_paths_apart(self):
        self.put(1)
        self.one.put(Y, number(1))
        self.send(self.one, self.other)
        self.other.put(X, number(5))
        self.send(self.other, self.one)
        self.check_written(True, "undo")
        self.assertEqual((self.value(X), self.value(Y)), (5, None))
        self.check_written(False, "undo")
        self.assertEqual((self.value(X), self.value(Y)), (5, None))

    def test_other_editions_forget_nothing(self):
        self.put(1, 2)
        self.one.undo()
        self.one.change_form(parse_form("section main\nquestion z; truth\n"))
        self.assertEqual(self.one.redo(), EMPTY)
        self.assertEqual(self.value(), 2)
        self.assertEqual(self.one.undo(), EMPTY)
        self.one.put(("z", ""), YES)
        self.assertIsNone(self.one.redo())
        self.one.change_form(FORM)
        self.assertEqual(self.one.undo(), EMPTY)
        self.assertEqual(self.one.undo(), ((), ((X, NOTHING),)))
        self.assertIsNone(self.one.undo())

    def test_values_that_are_not_accepted_are_brought_back_too(self):
        self.put(1, 2)
        self.one.change_form(parse_form("section main\nquestion x; integer; least 2\n"))
        self.assertEqual(self.one.undo(), ((), ((X, (True, None, True, False)),)))
        self.assertEqual(self.value(), 1)


if __name__ == "__main__":
    unittest.main()

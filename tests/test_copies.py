"""b1 to b3: deltas and the merging of them."""

import itertools
import random
import unittest

from deeds import outcome, random_deed, random_form
from formflow.copies import delta, merged
from formflow.entries import covers, heap
from formflow.errors import BadMerge
from formflow.formtext import parse_form
from formflow.response import Response
from states import HIDDEN, NO, NOTHING, YES, number, valued

FORM = parse_form("section main\nquestion x; integer\nquestion y; integer\nquestion t; truth\n"
                  "section kid; repeats 3; when t\nquestion age; integer\n")
HEAP = (("x", "", 4, 1, number(1)), ("y", "", 2, 2, number(2)), ("z", "", 3, 3, None), ("z", "a", 7, 1, YES))
VERSION = ((1, 7), (2, 2), (3, 3))


class DeltaTest(unittest.TestCase):
    def check(self, since, *places):
        wanted = ("camp", since, VERSION, tuple(HEAP[place] for place in places))
        self.assertEqual(delta("camp", since, VERSION, HEAP), wanted)

    def test_what_is_not_covered(self):
        self.check((), 0, 1, 2, 3)
        self.check(((1, 3),), 0, 1, 2, 3)
        self.check(((1, 4),), 1, 2, 3)
        self.check(((1, 6), (2, 2)), 2, 3)
        self.check(((1, 7),), 1, 2)
        self.check(((2, 9), (3, 3)), 0, 3)
        self.check(VERSION)

    def test_since_that_is_not_its_own(self):
        self.check(((4, 5),), 0, 1, 2, 3)
        self.check(((1, 99), (2, 99), (3, 99), (6, 1)))

    def test_of_nothing(self):
        self.assertEqual(delta("d", (), (), ()), ("d", (), (), ()))
        self.assertEqual(delta("d", ((1, 1),), ((1, 3),), ()), ("d", ((1, 1),), ((1, 3),), ()))

    def test_of_a_response(self):
        one = Response("camp", 1, FORM)
        one.put(("y", ""), number(1))
        one.put(("x", ""), number(2))
        one.put(("y", ""), number(3))
        newest = (("x", "", 2, 1, number(2)), ("y", "", 3, 1, number(3)))
        for since, wanted in (((), newest), (((1, 1),), newest), (((1, 2),), newest[1:]), (((1, 3),), ()),
                              (((2, 3),), newest), (((1, 40),), ())):
            self.assertEqual(one.since(since), ("camp", since, ((1, 3),), wanted))


class MergedTest(unittest.TestCase):
    def check(self, entries, version, given, wanted_entries, wanted_version, names):
        before = repr((entries, version, given))
        self.assertEqual(merged("camp", entries, version, given), (wanted_entries, wanted_version, names))
        self.assertEqual(repr((entries, version, given)), before)

    def test_into_nothing(self):
        self.check((), (), ("camp", (), VERSION, HEAP), HEAP, VERSION, ("x", "y", "z"))

    def test_nothing_new(self):
        self.check(HEAP, VERSION, ("camp", (), VERSION, HEAP), HEAP, VERSION, ())
        self.check(HEAP, VERSION, ("camp", (), (), ()), HEAP, VERSION, ())
        self.check(HEAP, VERSION, ("camp", VERSION, ((1, 8), (4, 1)), ()), HEAP, ((1, 8), (2, 2), (3, 3), (4, 1)), ())

    def test_newer_ones_alone(self):
        old = (("x", "", 3, 2, number(9)), ("y", "", 1, 1, number(9)))
        self.check(HEAP[:2], ((1, 7), (2, 2)), ("camp", (), ((1, 1), (2, 3)), old), HEAP[:2], ((1, 7), (2, 3)), ())
        new = (("x", "", 4, 2, number(9)), ("y", "", 2, 1, number(9)))
        self.check(HEAP[:2], ((1, 7), (2, 2)), ("camp", (), ((1, 2), (2, 4)), new), (new[0], HEAP[1]), ((1, 7), (2, 4)),
                   ("x",))

    def test_names_once_and_in_order(self):
        given = (("a", "", 9, 4, YES), ("z", "", 9, 4, YES), ("z", "a", 9, 4, YES), ("z", "b", 9, 4, YES))
        self.check(HEAP, VERSION, ("camp", (), ((4, 9),), given), given[:1] + HEAP[:2] + given[1:],
                   VERSION + ((4, 9),), ("a", "z"))

    def test_same_value_is_another_entry(self):
        given = (("x", "", 5, 2, number(1)),)
        self.check(HEAP[:1], ((1, 4),), ("camp", (), ((2, 5),), given), given, ((1, 4), (2, 5)), ("x",))

    def check_refused(self, reason, document, version, given):
        with self.assertRaises(BadMerge) as caught:
            merged(document, (), version, given)
        self.assertEqual(caught.exception.reason, reason)

    def test_another_document(self):
        self.check_refused("document", "camp", (), ("trip", (), VERSION, HEAP))
        # It comes ahead of a gap.
        self.check_refused("document", "camp", (), ("trip", ((1, 1),), VERSION, HEAP))

    def test_gap(self):
        for version, since in (((), ((1, 1),)), (((1, 1),), ((1, 2),)), (((1, 9), (2, 9)), ((1, 9), (3, 1))),
                               (((2, 9),), ((1, 1), (2, 9))), (((1, 9), (2, 3)), ((1, 2), (2, 4)))):
            self.check_refused("gap", "camp", version, ("camp", since, VERSION, ()))
            # Even if nothing is in it that is new.
            self.check_refused("gap", "camp", version, ("camp", since, (), ()))

    def test_no_gap(self):
        for version, since in (((), ()), (((1, 1),), ()), (((1, 2),), ((1, 1),)), (((1, 2),), ((1, 2),)),
                               (((1, 2), (2, 5)), ((2, 4),))):
            self.assertEqual(merged("camp", (), version, ("camp", since, version, ()))[1], version)


class MergeTest(unittest.TestCase):
    def setUp(self):
        self.one, self.two = Response("camp", 1, FORM), Response("camp", 2, FORM)

    def all_of(self, response):
        return response.entries(), response.version(), response.state(), response.journal()

    def test_report(self):
        self.one.put(("t", ""), YES)
        row = self.one.add("kid")[0]
        self.assertEqual(self.two.merge(self.one.since(())), (
            (("kid", True, (row,)),), ((("t", ""), valued(YES)), (("age", row), NOTHING))))
        self.assertEqual(self.all_of(self.two)[:3], self.all_of(self.one)[:3])
        # Merging is no edit.
        self.assertEqual(self.two.journal(), "")
        self.assertIsNone(self.two.undo())
        self.two.put(("t", ""), NO)
        self.assertEqual(self.one.merge(self.two.since(self.one.version())), (
            (("kid", False, ()),), ((("t", ""), valued(NO)), (("age", row), HIDDEN))))

    def test_twice_and_late(self):
        self.one.put(("x", ""), number(1))
        first = self.one.since(())
        self.one.put(("x", ""), number(2))
        second = self.one.since(((1, 1),))
        self.two.merge(first)
        self.two.merge(second)
        before = self.all_of(self.two)
        for given in (first, second, first, self.one.since(()), self.one.since(((1, 2),))):
            self.assertEqual(self.two.merge(given), ((), ()))
            self.assertEqual(self.all_of(self.two), before)

    def test_refused(self):
        self.one.put(("x", ""), number(1))
        before = self.all_of(self.one)
        for given, reason in ((("trip", (), ((2, 1),), (("x", "", 9, 2, YES),)), "document"),
                              (("camp", ((2, 1),), ((2, 2),), (("x", "", 9, 2, YES),)), "gap"),
                              (("camp", ((1, 2),), ((1, 3),), (("x", "", 9, 1, YES),)), "gap")):
            with self.assertRaises(BadMerge) as caught:
                self.one.merge(given)
            self.assertEqual(caught.exception.reason, reason)
            self.assertEqual(self.all_of(self.one), before)
        self.assertIsNotNone(self.one.undo())

    def test_of_an_older_version(self):
        self.one.put(("x", ""), number(1))
        old = self.one.since(())
        self.one.put(("y", ""), number(1))
        self.two.merge(self.one.since(()))
        self.two.put(("x", ""), number(3))
        self.assertEqual(self.two.merge(old), ((), ()))
        self.assertEqual(self.two.version(), ((1, 2), (2, 3)))

    def test_since_a_version_of_a_third_one(self):
        three = Response("camp", 3, FORM)
        three.put(("y", ""), number(5))
        self.one.put(("x", ""), number(1))
        self.two.merge(three.since(()))
        # What the one has not seen itself is a gap for none but who has not seen it.
        given = self.one.since(self.two.version())
        self.assertEqual(given, ("camp", ((3, 1),), ((1, 1),), (("x", "", 1, 1, number(1)),)))
        self.two.merge(given)
        self.assertEqual(self.two.version(), ((1, 1), (3, 1)))
        with self.assertRaises(BadMerge):
            Response("camp", 4, FORM).merge(given)

    def test_clock_of_the_next_edit(self):
        for _ in range(3):
            self.one.put(("x", ""), number(1))
        self.two.merge(self.one.since(()))
        self.two.put(("x", ""), number(2))
        self.assertEqual(self.two.entries(), (("x", "", 4, 2, number(2)),))

    def test_the_same_clock(self):
        self.one.put(("x", ""), number(9))
        self.two.put(("x", ""), number(1))
        deltas = self.one.since(()), self.two.since(())
        self.two.merge(deltas[0])
        self.one.merge(deltas[1])
        for response in (self.one, self.two):
            self.assertEqual(response.entries(), (("x", "", 1, 2, number(1)),))
            self.assertEqual(response.version(), ((1, 1), (2, 1)))

    def test_of_its_own_replica(self):
        # Two responses with one replica: of the same clock the greater code is kept.
        again = Response("camp", 1, FORM)
        again.put(("x", ""), number(9))
        self.one.put(("x", ""), number(10))
        self.one.merge(again.since(()))
        self.assertEqual(self.one.entries(), (("x", "", 1, 1, number(9)),))
        self.assertEqual(self.one.undo(), ((), ()))


class OrderTest(unittest.TestCase):
    def test_in_any_order(self):
        pick = random.Random(35)
        for _ in range(12):
            form = random_form(pick)
            responses = [Response("camp", number, form) for number in (1, 2, 3)]
            deltas, written = [], set()
            for _ in range(3):
                for response in responses:
                    known = response.version()
                    for _ in range(4):
                        outcome(response, random_deed(pick, response))
                        written |= set(response.entries())
                    deltas.append(response.since(known))
                    if pick.random() < 0.5:
                        outcome(response, ("merge", (pick.choice(deltas),)))
            wanted = heap(written)
            for _ in range(6):
                waiting = deltas + pick.sample(deltas, 3)
                pick.shuffle(waiting)
                copy = Response("camp", 6, form)
                # Those that come too early are merged later.
                while waiting:
                    late = [given for given in waiting if outcome(copy, ("merge", (given,))) == ("refused", "gap")]
                    self.assertLess(len(late), len(waiting))
                    self.check_covered(copy, written)
                    waiting = late
                self.assertEqual(copy.entries(), wanted)
                self.assertEqual(copy.version(), tuple(sorted(copy.version())))

    def check_covered(self, copy, written):
        """b3: of all that is covered it has the newest one of each path, or a newer one."""
        there = {entry[:2]: entry for entry in copy.entries()}
        for entry in written:
            if covers(copy.version(), entry):
                self.assertEqual(heap((entry, there[entry[:2]])), (there[entry[:2]],))

    def test_three_in_all_orders(self):
        given = []
        for replica in (1, 2, 3):
            response = Response("camp", replica, FORM)
            response.put(("x", ""), number(replica))
            if replica == 2:
                response.put(("y", ""), number(5))
            given.append(response.since(()))
        found = set()
        for picked in itertools.permutations(given):
            copy = Response("camp", 4, FORM)
            for one in picked:
                copy.merge(one)
            found.add((copy.entries(), copy.version(), copy.state()))
        self.assertEqual(len(found), 1)
        self.assertEqual(copy.entries(), (("x", "", 1, 3, number(3)), ("y", "", 2, 2, number(5))))
        self.assertEqual(copy.version(), ((1, 1), (2, 2), (3, 1)))


if __name__ == "__main__":
    unittest.main()

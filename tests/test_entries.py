"""c7, c8, e1, e2 and e3: entries, heaps and versions."""

import itertools
import random
import unittest

from formflow.entries import covers, entry_at, heap, merge_versions, newer
from states import NO, YES


def entry(clock, replica, value, name="a", row=""):
    return (name, row, clock, replica, value)


class NewerTest(unittest.TestCase):
    def check(self, old, new):
        self.assertEqual(newer(old, new), new)
        self.assertEqual(newer(new, old), new)

    def test_clock_first(self):
        self.check(entry(1, 6, YES), entry(2, 1, None))
        self.check(entry(9, 1, YES), entry(10, 1, YES))
        self.check(entry(99, 5, YES), entry(100, 2, NO))

    def test_then_replica(self):
        self.check(entry(3, 1, YES), entry(3, 2, None))
        self.check(entry(3, 5, ("text", "zzz")), entry(3, 6, ("number", -1)))

    def test_then_code(self):
        # In the order of their codes, as texts.
        values = (None, ("text", ""), ("text", "!"), ("text", "a"), ("text", "aa"), ("number", -1), ("number", -10),
                  ("number", -9), ("option", "a"), ("option", "b"), ("number", 0), ("number", 10), ("number", 9),
                  ("options", ()), ("options", ("a", "b")), ("options", ("a",)), NO, YES)
        for one, other in itertools.combinations(values, 2):
            self.check(entry(3, 2, one), entry(3, 2, other))

    def test_same(self):
        self.check(entry(3, 2, YES), entry(3, 2, YES))
        self.check(entry(3, 2, None), entry(3, 2, None))


class HeapTest(unittest.TestCase):
    def test_order(self):
        found = heap([entry(1, 1, YES, "b", "2x1"), entry(2, 1, YES, "b", "1x10"), entry(3, 1, YES, "b", ""),
                      entry(4, 1, YES, "a", "z"), entry(5, 1, YES, "a1", ""), entry(6, 1, YES, "b", "1x2")])
        self.assertEqual([one[:2] for one in found],
                         [("a", "z"), ("a1", ""), ("b", ""), ("b", "1x10"), ("b", "1x2"), ("b", "2x1")])
        self.assertIs(type(found), tuple)

    def test_one_of_each_path(self):
        entries = (entry(1, 1, YES), entry(3, 1, None), entry(2, 6, NO), entry(1, 1, NO, row="x"))
        for picked in itertools.permutations(entries):
            self.assertEqual(heap(picked), (entry(3, 1, None), entry(1, 1, NO, row="x")))
            self.assertEqual(heap(list(picked) * 2), (entry(3, 1, None), entry(1, 1, NO, row="x")))
        self.assertEqual(heap(()), ())
        self.assertEqual(heap([]), ())

    def test_alike_but_in_one_thing(self):
        for one, other in ((entry(4, 1, YES), entry(5, 1, YES)), (entry(4, 1, YES), entry(4, 2, YES)),
                           (entry(4, 1, NO), entry(4, 1, YES)), (entry(4, 1, None), entry(4, 1, NO))):
            self.assertEqual(heap((one, other)), (other,))
            self.assertEqual(heap((other, one)), (other,))

    def test_merging_in_any_order(self):
        pick = random.Random(13)
        for _ in range(300):
            entries = [entry(pick.randrange(1, 4), pick.randrange(1, 3), pick.choice((None, YES, NO, ("number", 3))),
                             pick.choice("ab"), pick.choice(("", "x", "y"))) for _ in range(pick.randrange(12))]
            before = list(entries)
            whole = heap(entries)
            self.assertEqual(entries, before)
            pick.shuffle(entries)
            at = pick.randrange(len(entries) + 1)
            self.assertEqual(heap(heap(entries[:at]) + heap(entries[at:])), whole)
            self.assertEqual(heap(whole), whole)
            self.assertEqual([one[:2] for one in whole], sorted({one[:2] for one in entries}))
            for one in entries:
                self.assertEqual(newer(one, entry_at(whole, *one[:2])), entry_at(whole, *one[:2]))

    def test_entry_at(self):
        found = heap((entry(1, 1, YES, "a", ""), entry(2, 1, NO, "a", "x"), entry(3, 1, None, "b", "x")))
        for one in found:
            self.assertEqual(entry_at(found, one[0], one[1]), one)
        for name, row in (("b", ""), ("a", "y"), ("c", "x"), ("x", "a")):
            self.assertIsNone(entry_at(found, name, row))
        self.assertIsNone(entry_at((), "a", ""))


class VersionsTest(unittest.TestCase):
    def check(self, one, other, merged):
        self.assertEqual(merge_versions(one, other), merged)
        self.assertEqual(merge_versions(other, one), merged)

    def test_merge_versions(self):
        self.check((), (), ())
        self.check((), ((1, 5),), ((1, 5),))
        self.check(((1, 5),), ((1, 5),), ((1, 5),))
        self.check(((1, 5),), ((1, 6),), ((1, 6),))
        self.check(((2, 5),), ((1, 6),), ((1, 6), (2, 5)))
        self.check(((1, 5), (3, 9)), ((2, 7), (3, 10)), ((1, 5), (2, 7), (3, 10)))
        self.check(((6, 1), ), ((1, 9), (2, 8), (3, 7)), ((1, 9), (2, 8), (3, 7), (6, 1)))
        self.check(((1, 5), (2, 3)), ((1, 4), (2, 6)), ((1, 5), (2, 6)))

    def test_covers(self):
        version = ((1, 5), (3, 9))
        for clock, replica, wanted in ((4, 1, True), (5, 1, True), (6, 1, False), (9, 3, True), (10, 3, False),
                                       (1, 2, False), (1, 6, False), (6, 3, True), (9, 1, False)):
            self.assertIs(covers(version, entry(clock, replica, YES)), wanted, (clock, replica))
            self.assertIs(covers(version, entry(clock, replica, None)), wanted, (clock, replica))
        self.assertIs(covers((), entry(1, 1, YES)), False)


if __name__ == "__main__":
    unittest.main()

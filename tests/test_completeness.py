"""q1 and q2: what is missing, broken and faulty, and progress."""

import random
import unittest

import right
from formflow.completeness import broken, faulty, missing, progress
from formflow.entries import heap
from formflow.formtext import parse_form
from formflow.state import work_out
from states import NO, YES, heap_of, number


def all_told(text, *told):
    """What is told of a form over entries (name, row, value): missing, broken, faulty, progress."""
    form = parse_form(text)
    state = work_out(form, heap_of(*told))
    return missing(form, state), broken(form, state), faulty(form, state), progress(form, state)


class QuestionsTest(unittest.TestCase):
    TEXT = ("section main\nquestion a; truth; required\nquestion b; integer\n"
            "question c; integer; least 5; required; when a\nquestion d; choice; option o when b > 1; required\n")

    def check(self, told, lacking, invalid, blocked, wanted):
        found = all_told(self.TEXT, *told)
        self.assertEqual(found[0], [(name, "") for name in lacking], told)
        self.assertEqual(found[1], ([], []))
        self.assertEqual(found[2], ([(name, "") for name in invalid], [(name, "") for name in blocked]), told)
        self.assertEqual(found[3], wanted, told)

    def test_nothing_answered(self):
        self.check([], "a", "", "d", (0, 1, False))

    def test_answered(self):
        self.check([("a", "", NO)], "", "", "d", (1, 1, True))
        self.check([("a", "", YES)], "c", "", "d", (1, 2, False))
        self.check([("a", "", YES), ("c", "", number(5))], "", "", "d", (2, 2, True))
        self.check([("a", "", YES), ("c", "", number(5)), ("b", "", number(2))], "d", "", "", (2, 3, False))
        self.check([("a", "", NO), ("b", "", number(2)), ("d", "", ("option", "o"))], "", "", "", (2, 2, True))

    def test_hidden_ones_are_not_missing(self):
        self.check([("a", "", NO), ("c", "", number(1))], "", "", "d", (1, 1, True))

    def test_optional_ones_are_not_missing(self):
        self.check([("a", "", NO), ("b", "", YES)], "", "b", "d", (1, 1, True))

    def test_invalid_ones_have_no_value(self):
        self.check([("a", "", number(1))], "a", "a", "d", (0, 1, False))
        self.check([("a", "", YES), ("c", "", number(4))], "c", "c", "d", (1, 2, False))
        # With a value a question is never blocked: it is invalid, and so missing.
        self.check([("a", "", NO), ("d", "", ("option", "o"))], "d", "d", "", (1, 2, False))

    def test_cleared_ones(self):
        self.check([("a", "", None), ("d", "", None)], "a", "", "d", (0, 1, False))

    def test_blocked_optional_ones_are_faulty(self):
        text = "section main\nquestion x; integer; least 2; greatest 1\nquestion y; integer; least 2; greatest 1; required\n"
        self.assertEqual(all_told(text), ([], ([], []), ([], [("x", ""), ("y", "")]), (0, 0, True)))

    def test_no_required_ones(self):
        self.assertEqual(all_told("section main\nquestion x; truth\nformula f; is x\n"), ([], ([], []), ([], []), (0, 0, True)))


class RulesTest(unittest.TestCase):
    TEXT = ("section main\nquestion a; truth\nquestion b; truth\nrule r; is a; says r\nrule s; is a; blocking; says s\n"
            "rule t; is a; when b; says t\nrule u; is a; blocking; when b; says u\nformula f; is a\n")

    def check(self, told, blocking, others):
        found = all_told(self.TEXT, *told)
        self.assertEqual(found[1], ([(name, "") for name in blocking], [(name, "") for name in others]), told)
        self.assertEqual(found[3], (0, 0, not blocking))
        self.assertEqual((found[0], found[2]), ([], ([], [])))

    def test_broken(self):
        self.check([("a", "", NO)], "s", "r")
        self.check([("a", "", NO), ("b", "", NO)], "s", "r")
        self.check([("a", "", NO), ("b", "", YES)], "su", "rt")

    def test_not_broken(self):
        self.check([], "", "")
        self.check([("a", "", YES), ("b", "", YES)], "", "")
        self.check([("a", "", None), ("b", "", YES)], "", "")

    def test_complete_needs_both(self):
        text = "section main\nquestion a; truth; required\nrule r; is a; blocking; says r\nrule s; is a; says s\n"
        for told, wanted in (([], (0, 1, False)), ([("a", "", NO)], (1, 1, False)), ([("a", "", YES)], (1, 1, True))):
            self.assertEqual(all_told(text, *told)[3], wanted)
        text = "section main\nquestion a; truth; required\nrule s; is a; says s\n"
        self.assertEqual(all_told(text, ("a", "", NO)), ([], ([], [("s", "")]), ([], []), (1, 1, True)))


class OrderTest(unittest.TestCase):
    TEXT = ("section one; repeats 3\nquestion a; truth; required\nquestion b; integer; greatest 1; required\n"
            "question c; choice; option o when a\nrule r; is a; says r\nrule s; is a; blocking; says s\n"
            "section two\nquestion d; truth; required\nrule t; is no; blocking; says t\n")

    def test_order_of_paths(self):
        rows = [("one", "q", number(1)), ("one", "p", number(2))]
        found = all_told(self.TEXT, *rows)
        self.assertEqual(found[0], [("a", "q"), ("b", "q"), ("a", "p"), ("b", "p"), ("d", "")])
        self.assertEqual(found[2], ([], [("c", "q"), ("c", "p")]))
        self.assertEqual(found[3], (0, 5, False))
        answers = [("a", "q", NO), ("a", "p", NO), ("b", "q", number(2)), ("b", "p", number(2))]
        found = all_told(self.TEXT, *rows, *answers)
        self.assertEqual(found[0], [("b", "q"), ("b", "p"), ("d", "")])
        self.assertEqual(found[1], ([("s", "q"), ("s", "p"), ("t", "")], [("r", "q"), ("r", "p")]))
        self.assertEqual(found[2], ([("b", "q"), ("b", "p")], [("c", "q"), ("c", "p")]))
        self.assertEqual(found[3], (2, 5, False))

    def test_rows_that_are_not_active(self):
        rows = [("one", row, number(at)) for at, row in enumerate("abcd")]
        self.assertEqual(all_told(self.TEXT, *rows)[0],
                         [(name, row) for row in "abc" for name in "ab"] + [("d", "")])

    def test_beside_the_words_of_the_document(self):
        pick = random.Random(30)
        complete = set()
        for _ in range(300):
            form = right.form(pick)
            state = work_out(form, heap(right.entries(pick, form)))
            before = repr((form, state))
            fields = {field[1]: field for section in form for field in section[3]}
            seen = [(path, fields[path[0]], found) for path, found in state[1] if found[0]]
            needed = [(path, found) for path, field, found in seen
                      if field[0] == "question" and field[4] and not found[3]]
            lacking = [path for path, found in needed if found[1] is None]
            rules = [(path, field[5]) for path, field, found in seen if field[0] == "rule" and found[1] == NO]
            stopping = [path for path, blocking in rules if blocking]
            self.assertEqual(missing(form, state), lacking)
            self.assertEqual(broken(form, state), (stopping, [path for path, blocking in rules if not blocking]))
            self.assertEqual(faulty(form, state), ([path for path, _, found in seen if found[2]],
                                                   [path for path, _, found in seen if found[3]]))
            whole = not lacking and not stopping
            self.assertEqual(progress(form, state), (len(needed) - len(lacking), len(needed), whole))
            self.assertIs(progress(form, state)[2], whole)
            self.assertEqual(repr((form, state)), before)
            complete.add(whole)
        self.assertEqual(complete, {True, False})

    def test_new_each_time(self):
        form = parse_form(self.TEXT)
        state = work_out(form, ())
        for tell in (missing, broken, faulty):
            first = tell(form, state)
            wanted = repr(first)
            for found in (first if isinstance(first, tuple) else (first,)):
                self.assertIs(type(found), list)
                found.append("more")
            self.assertEqual(repr(tell(form, state)), wanted)


if __name__ == "__main__":
    unittest.main()

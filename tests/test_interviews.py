"""x1 and x2: interviews."""

import random
import unittest

from deeds import outcome, random_deed, random_form, random_value
from formflow.completeness import missing, progress
from formflow.formtext import parse_form
from formflow.interviews import Interview
from formflow.response import Response
from formflow.state import accepts, state_at
from states import NO, YES, number

TEXT = ("section main\nquestion kids; truth; required\nquestion note; text 5\nquestion name; text 5; required\n"
        "section kid; repeats 2; when kids\nquestion age; integer; greatest 17; required\n"
        "section end\nrule cap; is sum(age) ?? 0 < 20; blocking; says cap\nquestion way; choice; option bus when kids; required\n")
FORM = parse_form(TEXT)
KIDS, NAME, WAY = ("kids", ""), ("name", ""), ("way", "")


class InterviewTest(unittest.TestCase):
    def setUp(self):
        self.response = Response("camp", 1, FORM)
        self.interview = Interview(self.response)

    def check(self, asked, complete, *lacking):
        self.assertEqual(self.interview.asked(), asked)
        # Asking changes nothing.
        self.assertEqual(self.interview.asked(), asked)
        self.assertEqual(self.interview.outcome(), (complete, lacking))

    def answer(self, value, wanted="taken"):
        journal = self.response.journal()
        self.assertEqual(self.interview.answer(value), wanted)
        self.assertEqual(self.response.journal() != journal, wanted == "taken")

    def pass_over(self, wanted="passed"):
        before = self.response.journal(), self.response.entries()
        self.assertEqual(self.interview.pass_over(), wanted)
        self.assertEqual((self.response.journal(), self.response.entries()), before)

    def test_answering(self):
        self.check(KIDS, False, KIDS, NAME)
        self.answer(NO)
        self.check(NAME, False, NAME)
        self.answer(("text", "ann"))
        self.check(None, True)
        self.assertEqual(self.response.journal(), 'put kids no\nput name "ann\n')

    def test_answers_make_more_to_ask(self):
        self.answer(YES)
        self.check(NAME, False, NAME, WAY)
        self.response.add("kid")
        self.check(NAME, False, NAME, ("age", "1x2"), WAY)
        self.answer(("text", ""))
        self.check(("age", "1x2"), False, ("age", "1x2"), WAY)
        self.answer(number(3))
        self.answer(("option", "bus"))
        self.check(None, True)

    def test_rejected(self):
        for value in (number(1), ("text", "yes"), None, True, (), ("truth", 1)):
            self.answer(value, "rejected")
            self.check(KIDS, False, KIDS, NAME)
        self.answer(YES)
        self.answer(("text", "abcdef"), "rejected")
        self.check(NAME, False, NAME, WAY)

    def test_passing(self):
        self.pass_over()
        self.check(NAME, False, KIDS, NAME)
        self.pass_over()
        self.check(None, False, KIDS, NAME)

    def test_over(self):
        self.pass_over()
        self.pass_over()
        for _ in range(2):
            self.answer(YES, "over")
            self.pass_over("over")
            # Also for what is no value.
            self.answer(None, "over")
        self.check(None, False, KIDS, NAME)

    def test_over_and_complete(self):
        self.answer(NO)
        self.answer(("text", "x"))
        self.answer(("text", "y"), "over")
        self.pass_over("over")
        self.check(None, True)

    def test_over_but_broken(self):
        self.answer(YES)
        self.answer(("text", "x"))
        for age in (9, 17):
            self.response.add("kid")
            self.answer(number(age))
        self.answer(("option", "bus"))
        self.check(None, False)

    def test_missing_again_by_an_edit(self):
        self.answer(NO)
        self.answer(("text", "x"))
        self.response.clear(KIDS)
        self.check(KIDS, False, KIDS)
        self.response.put(KIDS, YES)
        self.check(WAY, False, WAY)
        self.pass_over()
        self.response.add("kid")
        self.check(("age", "1x5"), False, ("age", "1x5"), WAY)
        self.answer(number(5))
        self.pass_over("over")

    def test_missing_again_by_an_undo(self):
        self.answer(NO)
        self.answer(("text", "x"))
        self.response.undo()
        self.check(NAME, False, NAME)
        self.response.redo()
        self.check(None, True)

    def test_missing_again_by_a_merge(self):
        self.answer(NO)
        self.answer(("text", "x"))
        other = Response("camp", 2, FORM)
        other.merge(self.response.since(()))
        other.put(KIDS, YES)
        self.response.merge(other.since(()))
        self.check(WAY, False, WAY)
        other.put(WAY, ("option", "bus"))
        self.response.merge(other.since(()))
        self.check(None, True)

    def test_missing_again_by_another_edition(self):
        self.answer(NO)
        self.answer(("text", "x"))
        self.response.change_form(parse_form(TEXT.replace("note; text 5", "note; text 5; required")))
        self.check(("note", ""), False, ("note", ""))
        self.answer(("text", "n"))
        self.response.change_form(parse_form(TEXT.replace("name; text 5", "name; integer")))
        # The answer is invalid now, and so the question is missing.
        self.check(NAME, False, NAME)
        self.answer(("text", "n"), "rejected")
        self.answer(number(4))
        self.check(None, True)
        self.response.change_form(FORM)
        self.check(NAME, False, NAME)

    def test_passed_ones_are_not_asked_again(self):
        self.pass_over()
        self.response.put(KIDS, NO)
        self.response.clear(KIDS)
        self.check(NAME, False, KIDS, NAME)
        self.response.change_form(parse_form("section s\nquestion x; truth; required\n"))
        self.check(("x", ""), False, ("x", ""))
        self.response.change_form(FORM)
        self.check(NAME, False, KIDS, NAME)

    def test_what_is_ahead_of_the_one_asked(self):
        self.response.put(KIDS, YES)
        self.check(NAME, False, NAME, WAY)
        # A question further ahead is asked first, whenever it gets missing.
        self.response.clear(KIDS)
        self.check(KIDS, False, KIDS, NAME)

    def test_two_interviews_of_one_response(self):
        other = Interview(self.response)
        self.pass_over()
        self.assertEqual(other.asked(), KIDS)
        self.assertEqual(other.answer(NO), "taken")
        self.check(NAME, False, NAME)
        self.assertEqual(other.pass_over(), "passed")
        self.assertIsNone(other.asked())
        self.answer(("text", "x"))
        self.assertEqual(other.pass_over(), "over")
        self.assertEqual(other.outcome(), (True, ()))

    def test_one_row_is_passed(self):
        self.answer(YES)
        self.answer(("text", "x"))
        rows = [self.response.add("kid")[0] for _ in range(2)]
        self.check(("age", rows[0]), False, ("age", rows[0]), ("age", rows[1]), WAY)
        self.pass_over()
        self.check(("age", rows[1]), False, ("age", rows[0]), ("age", rows[1]), WAY)
        self.response.order("kid", tuple(reversed(rows)))
        self.check(("age", rows[1]), False, ("age", rows[1]), ("age", rows[0]), WAY)

    def test_random_ones(self):
        pick = random.Random(43)
        seen = set()
        for _ in range(60):
            response = Response("camp", 1, random_form(pick))
            interview, passed = Interview(response), set()
            for _ in range(40):
                lacking = missing(response.form(), response.state())
                waiting = [path for path in lacking if path not in passed]
                wanted = waiting[0] if waiting else None
                self.assertEqual(interview.asked(), wanted)
                self.assertEqual(interview.outcome(), (progress(response.form(), response.state())[2], tuple(lacking)))
                chance = pick.random()
                if chance < 0.4:
                    answers = [field[3] for section in response.form() for field in section[3]
                               if wanted is not None and field[1] == wanted[0]]
                    value = random_value(pick, answers[0] if answers else None)
                    before = response.entries()
                    found = interview.answer(value)
                    seen.add(found)
                    if found == "taken":
                        self.assertEqual(state_at(response.state(), wanted), (True, value, False, False))
                    else:
                        self.assertEqual(response.entries(), before)
                        self.assertEqual(found, "over" if wanted is None else "rejected")
                        self.assertFalse(wanted is not None and accepts(response.form(), response.state(), wanted, value))
                elif chance < 0.5:
                    found = interview.pass_over()
                    self.assertEqual(found, "over" if wanted is None else "passed")
                    passed.add(wanted)
                    seen.add(found)
                else:
                    outcome(response, random_deed(pick, response))
        self.assertEqual(seen, {"taken", "rejected", "passed", "over"})


if __name__ == "__main__":
    unittest.main()

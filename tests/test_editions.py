"""n1 and n2: what differs between two editions of a form, and responses that go from one to another."""

import random
import unittest

import model
from deeds import outcome, random_deed, random_form
from formflow.editions import changed
from formflow.errors import BadForm
from formflow.formtext import form_text, parse_form
from formflow.response import Response
from formflow.state import work_out

TEXT = ("section main\nquestion a; truth\nquestion b; integer; greatest 9\n"
        "section kid; repeats 2; when a\nquestion x; truth\nformula y; is x\n"
        "section end\nrule r; is a; says r\n")
FORM = parse_form(TEXT)


class ChangedTest(unittest.TestCase):
    def check(self, text, *names):
        self.assertEqual(changed(FORM, parse_form(text)), list(names), text)

    def check_with(self, old, new, *names):
        self.assertIn(old, TEXT)
        self.check(TEXT.replace(old, new), *names)

    def test_nothing(self):
        self.check(TEXT)
        self.assertEqual(changed(FORM, FORM), [])

    def test_sections(self):
        self.check_with("repeats 2", "repeats 3", "kid")
        self.check_with("repeats 2; ", "", "kid")
        self.check_with("; when a\nquestion x", "\nquestion x", "kid")
        self.check_with("when a\nquestion x", "when not a\nquestion x", "kid")
        self.check_with("section end", "section end; when a", "end")
        self.check_with("section main\n", "section main; when yes\n", "main")

    def test_questions(self):
        self.check_with("question a; truth", "question a; truth; required", "a")
        self.check_with("greatest 9", "greatest 8", "b")
        self.check_with("; greatest 9", "", "b")
        self.check_with("question x; truth\n", "question x; truth; when a\n", "x")
        self.check_with("integer; greatest 9", "integer; least 9", "b")
        self.check_with("question b; integer; greatest 9", "formula b; is 9", "b")

    def test_formulas_and_rules(self):
        self.check_with("is x", "is not x", "y")
        self.check_with("is x\n", "is x; when x\n", "y")
        self.check_with("is a; says r", "is a; blocking; says r", "r")
        self.check_with("says r", "says s", "r")
        # What it reads has changed, but not the rule itself.
        self.check_with("question a; truth", "formula a; is yes", "a")

    def test_new_ones(self):
        self.check("section new\nquestion z; truth\n" + TEXT, "new", "z")
        self.check_with("section end\n", "section end\nquestion z; truth\nquestion w; truth\n", "z", "w")
        self.assertEqual(changed((), FORM), ["main", "a", "b", "kid", "x", "y", "end", "r"])

    def test_those_that_are_gone_are_not_told(self):
        self.check("section main\nquestion a; truth\n")
        self.assertEqual(changed(FORM, ()), [])

    def test_field_in_another_section(self):
        other = TEXT.replace("question b; integer; greatest 9\n", "") + "question b; integer; greatest 9\n"
        self.check(other, "b")
        # In a section of the same name it is unchanged, wherever it stands in it.
        self.check_with("question a; truth\nquestion b; integer; greatest 9\n",
                        "question b; integer; greatest 9\nquestion a; truth\n")

    def test_section_with_another_name(self):
        self.check_with("section main", "section first", "first", "a", "b")

    def test_exchanged_fields(self):
        self.check("section main\nquestion b; truth\nquestion a; integer; greatest 9\n", "b", "a")
        self.check("section main\nquestion a; truth\nsection end\nquestion b; integer; greatest 9\n", "b")

    def test_exchanged_sections(self):
        self.check("section end\nquestion a; truth\nrule r; is a; says r\nsection main\nquestion b; integer; greatest 9\n",
                   "a")
        self.check("section end\nquestion b; integer; greatest 9\nsection main\nquestion a; truth\n", "b")

    def test_section_that_was_a_field(self):
        self.check("section a\nquestion main; truth\n", "a", "main")
        self.check("section main\nquestion end; truth\nsection b\nquestion a; truth\n", "end", "b", "a")

    def test_new_each_time(self):
        other = parse_form(TEXT.replace("repeats 2", "repeats 3"))
        changed(FORM, other).append("more")
        self.assertEqual(changed(FORM, other), ["kid"])

    def test_beside_the_words_of_the_document(self):
        pick = random.Random(40)
        seen = 0
        for _ in range(300):
            one, other = random_form(pick), random_form(pick)
            if pick.random() < 0.7:
                other = self.a_bit_different(pick, one)
            wanted = []
            for section in other:
                if not any(old[0] == section[0] and old[1] == section[1] and old[2] == section[2] for old in one):
                    wanted.append(section[0])
                for field in section[3]:
                    if not any(old[0] == section[0] and field in old[3] for old in one):
                        wanted.append(field[1])
            before = repr((one, other))
            self.assertEqual(changed(one, other), wanted)
            self.assertEqual(repr((one, other)), before)
            self.assertEqual(changed(one, one), [])
            seen += 0 < len(wanted) < 5
        self.assertGreater(seen, 50)

    def a_bit_different(self, pick, form):
        """The form with some things left out or put elsewhere; it need not be right."""
        sections = [[section[0], section[1], section[2], list(section[3])] for section in form]
        for _ in range(pick.randrange(3)):
            one, other = pick.choice(sections), pick.choice(sections)
            if one[3]:
                other[3].insert(0, one[3].pop())
            if pick.random() < 0.3:
                one[2], other[2] = other[2], one[2]
        if pick.random() < 0.3:
            pick.shuffle(sections)
        return tuple((*section[:3], tuple(section[3])) for section in sections)


class ChangeFormTest(unittest.TestCase):
    def test_there_and_back(self):
        pick = random.Random(41)
        for _ in range(60):
            one, other = random_form(pick), random_form(pick)
            response = Response("camp", 1, one)
            for _ in range(15):
                outcome(response, random_deed(pick, response))
            kept = response.entries(), response.version(), response.journal()
            old = response.state()
            told = response.change_form(other)
            self.assertEqual(told, model.report(one, old, other, work_out(other, kept[0])))
            self.assertEqual(response.state(), work_out(other, kept[0]))
            self.assertEqual(response.form(), other)
            self.assertEqual(response.change_form(one), model.report(other, work_out(other, kept[0]), one, old))
            self.assertEqual(response.state(), old)
            self.assertEqual((response.entries(), response.version(), response.journal()), kept)

    def test_edits_of_two_editions(self):
        pick = random.Random(42)
        for _ in range(40):
            forms = [random_form(pick) for _ in range(3)]
            response = Response("camp", 1, forms[0])
            for _ in range(30):
                if pick.random() < 0.2:
                    response.change_form(pick.choice(forms))
                outcome(response, random_deed(pick, response))
                self.assertEqual(response.state(), work_out(response.form(), response.entries()))

    def test_same_text(self):
        response = Response("camp", 1, FORM)
        response.put(("a", ""), ("truth", True))
        self.assertEqual(response.change_form(parse_form(form_text(FORM))), ((), ()))

    def test_form_with_issues(self):
        response = Response("camp", 1, FORM)
        response.put(("a", ""), ("truth", True))
        before = repr((response.form(), response.entries(), response.version(), response.state(), response.journal()))
        for text in ("section s; when 1\nquestion x; truth\n", "section s\nquestion s; truth\n"):
            with self.assertRaises(BadForm):
                response.change_form(parse_form(text))
            after = (response.form(), response.entries(), response.version(), response.state(), response.journal())
            self.assertEqual(repr(after), before)
        self.assertIsNotNone(response.undo())

    def test_a_name_that_changes_what_it_is(self):
        # A question becomes a section that repeats, and its answer is no position of a row.
        response = Response("camp", 1, parse_form("section main\nquestion kid; integer\n"))
        response.put(("kid", ""), ("number", 40))
        form = parse_form("section kid; repeats 2\nquestion x; truth\n")
        self.assertEqual(response.change_form(form)[0], (("kid", True, ()), ("main", False, ())))
        row = response.add("kid")[0]
        self.assertIn(("kid", row, 2, 1, ("number", 1)), response.entries())
        self.assertEqual(response.state()[0], (("kid", True, ("1x2",)),))


if __name__ == "__main__":
    unittest.main()

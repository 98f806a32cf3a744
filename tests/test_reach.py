"""d1 to d4: dependents, renewing and reports."""

import random
import unittest

import model
import right
from formflow.entries import heap
from formflow.formtext import parse_form
from formflow.issues import issues
from formflow.reach import dependents, renew, report
from formflow.reading import parse_expression
from formflow.state import work_out
from states import HIDDEN, INVALID, NO, NOTHING, YES, heap_of, number, valued


class ExampleTest(unittest.TestCase):
    def test_example(self):
        form = (("main", None, 0, (
            ("question", "kids", None, ("truth",), True),
            ("formula", "fee", parse_expression("kids"), parse_expression("10")),
            ("question", "mail", None, ("text", 9), False))),)
        self.assertEqual(dependents(form, ("kids",)), ("kids", "fee"))
        self.assertEqual(
            report(form, work_out(form, ()), form, work_out(form, (("kids", "", 1, 1, YES),))),
            ((), ((("kids", ""), valued(YES)), (("fee", ""), valued(number(10))))))


class DependentsTest(unittest.TestCase):
    FORM = parse_form(
        "section main\nquestion a; truth\nquestion c; integer\nquestion b; integer; least c\n"
        "section kid; repeats 2; when a\nquestion x; truth; when c > 1\nquestion y; integer; greatest c\n"
        "section end\nformula n; is count(kid)\nformula s; is sum(y)\nquestion z; text 3; when any(x)\n"
        "rule r; is n > 1; says r\nrule q; is answered(b); when s = 1; says q\n")

    def test_form_is_right(self):
        self.assertEqual(issues(self.FORM), [])

    def check(self, names, *wanted):
        self.assertEqual(dependents(self.FORM, names), wanted)

    def test_those_that_read(self):
        self.check(("x",), "x", "z")
        self.check(("y",), "y", "s", "q")
        self.check(("n",), "n", "r")
        self.check(("z",), "z")
        self.check(("s",), "s", "q")

    def test_what_reads_dependents(self):
        self.check(("b",), "b", "q")
        self.check(("c",), "c", "b", "x", "y", "s", "z", "q")

    def test_fields_of_a_section(self):
        self.check(("a",), "a", "kid", "x", "y", "n", "s", "z", "r", "q")
        self.check(("kid",), "kid", "x", "y", "n", "s", "z", "r", "q")
        self.check(("main",), "main", "a", "c", "b", "kid", "x", "y", "n", "s", "z", "r", "q")
        self.check(("end",), "end", "n", "s", "z", "r", "q")

    def test_told_names_first(self):
        self.check(("z", "x"), "z", "x")
        self.check(("s", "y", "n"), "s", "y", "n", "r", "q")
        self.check(("q", "a", "kid"), "q", "a", "kid", "x", "y", "n", "s", "z", "r")
        self.check(("y", "y"), "y", "s", "q")

    def test_no_names_and_names_that_are_not_there(self):
        self.check(())
        self.check(("none",), "none")
        self.check(("none", "z"), "none", "z")

    def test_names_in_options_do_not_count(self):
        form = parse_form("section main\nquestion o; choice; option o; option p\nformula f; is 'o'\n"
                          "question cs; choices; option q\nrule r; is has(cs, 'o'); says r\n")
        self.assertEqual(dependents(form, ("o",)), ("o",))

    def test_each_part_of_a_field(self):
        for line in ("question x; truth; when a", "question x; integer; least b", "question x; integer; greatest b",
                     "question x; choice; option o; option p when a", "question x; choices; option o when a",
                     "formula x; is a", "formula x; is yes; when a", "rule x; is a; says x",
                     "rule x; is yes; when a; says x"):
            form = parse_form(f"section main\nquestion a; truth\nquestion b; integer\n{line}\n")
            name = "b" if " b" in line else "a"
            self.assertEqual(dependents(form, (name,)), (name, "x"), line)


class RenewTest(unittest.TestCase):
    def test_equal_to_work_out(self):
        pick = random.Random(16)
        changed = 0
        for _ in range(500):
            form = right.form(pick)
            entries = heap(right.entries(pick, form))
            state = work_out(form, entries)
            # Changed entries, new ones and cleared ones, some of them the same as ahead.
            for _ in range(3):
                given = [(name, row, 99, replica, pick.choice((value, value, None)))
                         for name, row, _, replica, value in right.entries(pick, form, 0.12)]
                names = tuple({entry[0]: True for entry in given})
                before = repr((form, state, entries, names))
                found = renew(form, state, heap(entries + tuple(given)), names)
                self.assertEqual(repr((form, state, entries, names)), before)
                entries = heap(entries + tuple(given))
                wanted = work_out(form, entries)
                self.assertEqual(found, wanted, (form, given))
                reached = dependents(form, names)
                for old, new in zip(state[0] + state[1], wanted[0] + wanted[1]):
                    if len(state[1]) == len(wanted[1]) and old != new:
                        changed += 1
                        self.assertIn(new[0] if isinstance(new[0], str) else new[0][0], reached)
                state = wanted
        self.assertGreater(changed, 500)

    def test_entries_that_are_gone(self):
        form = parse_form("section main\nquestion a; truth\nsection kid; repeats 2; when a\nquestion x; integer\n"
                          "section end\nformula s; is sum(x)\n")
        full = heap_of(("a", "", YES), ("kid", "r", number(1)), ("x", "r", number(4)))
        state = work_out(form, full)
        for entries, names in ((heap_of(), ("a", "kid", "x")), (heap_of(("a", "", NO), *[one[:2] + one[4:] for one in full[1:]]), ("a",)),
                               (full[:1] + full[2:], ("kid",)), (full[:2], ("x",)), (full, ()), (full, ("none",))):
            self.assertEqual(renew(form, state, entries, names), work_out(form, entries))
            self.assertEqual(renew(form, work_out(form, entries), full, names), state)

    def test_only_dependents_are_worked_out(self):
        form = parse_form("section main\nquestion a; truth\nformula f; is a\nquestion b; truth\nformula g; is b\n"
                          "section kid; repeats 2; when b\nquestion x; truth\n")
        old = work_out(form, heap_of(("a", "", YES), ("b", "", YES), ("kid", "r", number(1))))
        # Over a heap that differs elsewhere, too, all but the dependents stays.
        found = renew(form, old, heap_of(("a", "", NO), ("b", "", NO)), ("a",))
        self.assertEqual(found[0], old[0])
        self.assertEqual(found[1], ((("a", ""), valued(NO)), (("f", ""), valued(NO))) + old[1][2:])


class ReportTest(unittest.TestCase):
    def check(self, old_text, old_told, text, told, sections, fields):
        old_form, form = parse_form(old_text), parse_form(text)
        old, new = work_out(old_form, heap_of(*old_told)), work_out(form, heap_of(*told))
        found = report(old_form, old, form, new)
        self.assertEqual(found, (tuple(sections), tuple(fields)))
        self.assertEqual(found, model.report(old_form, old, form, new))

    def test_values(self):
        text = "section main\nquestion a; truth\nquestion b; integer\nformula f; is b > 1; when a\n"
        self.check(text, [], text, [], [], [])
        self.check(text, [], text, [("a", "", YES)], [], [(("a", ""), valued(YES)), (("f", ""), NOTHING)])
        self.check(text, [("a", "", YES)], text, [("a", "", None)], [], [(("a", ""), NOTHING), (("f", ""), HIDDEN)])
        self.check(text, [("a", "", YES), ("b", "", number(2))], text, [("a", "", YES), ("b", "", number(3))], [],
                   [(("b", ""), valued(number(3)))])
        self.check(text, [], text, [("a", "", number(1))], [], [(("a", ""), INVALID)])

    def test_blocked(self):
        text = "section main\nquestion a; truth\nquestion b; choice; option o when a\n"
        self.check(text, [], text, [("a", "", YES)], [], [(("a", ""), valued(YES)), (("b", ""), NOTHING)])

    def test_sections(self):
        text = "section main\nquestion a; truth\nsection kid; repeats 3; when a\nquestion x; truth\n"
        rows = [("kid", "p", number(1)), ("kid", "q", number(2))]
        yes = [("a", "", YES)]
        asked = [(("a", ""), valued(YES))]
        self.check(text, [], text, yes, [("kid", True, ())], asked)
        self.check(text, rows, text, rows + yes, [("kid", True, ("p", "q"))],
                   asked + [(("x", "p"), NOTHING), (("x", "q"), NOTHING)])
        self.check(text, rows + yes, text, rows, [("kid", False, ())],
                   [(("a", ""), NOTHING), (("x", "p"), HIDDEN), (("x", "q"), HIDDEN)])
        # The order of rows is told, too, though no state has changed.
        self.check(text, rows + yes, text, [("kid", "p", number(3)), rows[1]] + yes, [("kid", True, ("q", "p"))], [])
        self.check(text, rows + yes, text, rows[:1] + yes, [("kid", True, ("p",))], [(("x", "q"), HIDDEN)])
        self.check(text, rows[:1] + yes, text, rows + yes, [("kid", True, ("p", "q"))], [(("x", "q"), NOTHING)])

    def test_sections_that_do_not_repeat(self):
        text = "section main\nquestion a; truth\nsection more; when a\nquestion x; truth\n"
        self.check(text, [], text, [("a", "", YES)], [("more", True, ())],
                   [(("a", ""), valued(YES)), (("x", ""), NOTHING)])
        self.check(text, [("a", "", YES), ("x", "", YES)], text, [("x", "", YES)], [("more", False, ())],
                   [(("a", ""), NOTHING), (("x", ""), HIDDEN)])

    def test_order_of_fields(self):
        text = ("section kid; repeats 3\nquestion x; integer\nformula y; is x\nsection end\nformula s; is sum(x) ?? 0\n")
        rows = [("kid", "q", number(1)), ("kid", "p", number(2))]
        told = [("x", "q", number(4)), ("x", "p", number(5))]
        self.check(text, rows, text, rows + told, [], [
            (("x", "q"), valued(number(4))), (("x", "p"), valued(number(5))), (("y", "q"), valued(number(4))),
            (("y", "p"), valued(number(5))), (("s", ""), valued(number(9)))])
        self.check(text, rows + told, text, [], [("kid", True, ())], [
            (("s", ""), valued(number(0))), (("x", "q"), HIDDEN), (("x", "p"), HIDDEN), (("y", "q"), HIDDEN),
            (("y", "p"), HIDDEN)])
        self.check(text, rows + told, text, [rows[0], ("kid", "p", number(0))] + told, [("kid", True, ("p", "q"))], [])

    def test_hidden_ones_that_come_and_go_are_not_told(self):
        text = "section kid; repeats 2\nquestion x; truth\nquestion y; truth; when x\n"
        self.check(text, [], text, [("kid", "p", number(1))], [("kid", True, ("p",))], [(("x", "p"), NOTHING)])
        self.check(text, [("kid", "p", number(1))], text, [], [("kid", True, ())], [(("x", "p"), HIDDEN)])

    def test_new_sections_and_fields(self):
        old = "section main\nquestion a; truth\n"
        self.check(old, [], old + "question b; truth\nquestion c; truth; when a\n", [], [], [(("b", ""), NOTHING)])
        self.check(old, [], old + "section more\nquestion b; truth\n", [], [("more", True, ())], [(("b", ""), NOTHING)])
        self.check(old, [], old + "section more; when a\nquestion b; truth\n", [], [], [])
        # A section that is new and hidden counts as hidden ahead, whether it repeats or not.
        self.check(old, [], old + "section kid; repeats 2; when a\nquestion b; truth\n", [], [], [])
        self.check(old, [], old + "section kid; repeats 2\nquestion b; truth\n", [("kid", "p", number(1))],
                   [("kid", True, ("p",))], [(("b", "p"), NOTHING)])
        self.check(old, [], old + "section kid; repeats 2\nquestion b; truth\n", [], [("kid", True, ())], [])

    def test_sections_and_fields_that_are_gone(self):
        new = "section main\nquestion a; truth\n"
        told = [("kid", "q", number(1)), ("kid", "p", number(2))]
        old = ("section first\nquestion b; truth\nquestion c; truth; when b\n" + new +
               "section kid; repeats 2\nquestion x; truth\nformula y; is row\nsection nay; when a\nquestion z; truth\n")
        self.check(old, told, new, told, [("first", False, ()), ("kid", False, ())], [
            (("b", ""), HIDDEN), (("x", "q"), HIDDEN), (("x", "p"), HIDDEN), (("y", "q"), HIDDEN), (("y", "p"), HIDDEN)])
        self.check(old, told, new, [("a", "", YES)], [("first", False, ()), ("kid", False, ())], [
            (("a", ""), valued(YES)), (("b", ""), HIDDEN), (("x", "q"), HIDDEN), (("x", "p"), HIDDEN),
            (("y", "q"), HIDDEN), (("y", "p"), HIDDEN)])

    def test_most(self):
        one = "section main\nquestion a; truth\nsection kid\nquestion x; truth\n"
        many = "section main\nquestion a; truth\nsection kid; repeats 2\nquestion x; truth\n"
        self.check(one, [], many, [], [("kid", True, ())], [(("x", ""), HIDDEN)])
        self.check(many, [], one, [], [("kid", True, ())], [(("x", ""), NOTHING)])
        self.check(many, [("kid", "p", number(1))], one, [("kid", "p", number(1))], [("kid", True, ())],
                   [(("x", ""), NOTHING), (("x", "p"), HIDDEN)])
        # Of most only that it differs from 0 counts.
        self.check(many, [], many.replace("2", "3"), [], [], [])
        rows = [("kid", row, number(1)) for row in "pqr"]
        self.check(many, rows, many.replace("2", "3"), rows, [("kid", True, ("p", "q", "r"))], [(("x", "r"), NOTHING)])
        hidden = "section main\nquestion a; truth\nsection kid{}; when a\nquestion x; truth\n"
        self.check(hidden.format(""), [], hidden.format("; repeats 2"), [], [("kid", False, ())], [])

    def test_exchanged_ones(self):
        one = "section main\nquestion a; truth\nsection more\nquestion b; truth\n"
        other = "section more\nquestion a; truth\nsection main\nquestion b; truth\n"
        told = [("a", "", YES)]
        self.check(one, told, other, told, [], [])
        self.check(one, [], other, told + [("b", "", NO)], [], [(("a", ""), valued(YES)), (("b", ""), valued(NO))])
        # What is told of a path is its state, whatever the field is.
        self.check("section main\nquestion a; truth\n", told, "section main\nformula a; is yes\n", told, [], [])
        self.check("section main\nquestion a; truth\n", told, "section main\nquestion a; integer\n", told, [],
                   [(("a", ""), INVALID)])
        self.check("section main\nquestion a; truth\n", told, "section a\nquestion main; truth\n", told,
                   [("a", True, ()), ("main", False, ())], [(("main", ""), NOTHING), (("a", ""), HIDDEN)])

    def test_from_a_state_to_itself(self):
        pick = random.Random(17)
        for _ in range(200):
            form = right.form(pick)
            state = work_out(form, heap(right.entries(pick, form)))
            self.assertEqual(report(form, state, form, state), ((), ()))

    def test_just_what_differs(self):
        pick = random.Random(18)
        told = 0
        for _ in range(400):
            form = right.form(pick)
            entries = heap(right.entries(pick, form))
            given = [entry[:2] + (99,) + entry[3:] for entry in right.entries(pick, form, 0.2)]
            old, new = work_out(form, entries), work_out(form, heap(entries + tuple(given)))
            sections, fields = report(form, old, form, new)
            self.assertEqual((sections, fields), model.report(form, old, form, new))
            # Putting what is told over the old state makes the new one.
            states = {**dict(old[1]), **dict(fields)}
            for path, state in new[1]:
                self.assertEqual(states.pop(path, HIDDEN), state)
            self.assertTrue(all(state == HIDDEN for state in states.values()))
            told += len(fields)
        self.assertGreater(told, 400)

    def test_between_forms(self):
        pick = random.Random(19)
        names = [f"{letter}{at}" for letter in "ab" for at in range(9)]
        for _ in range(400):
            forms = []
            for _ in range(2):
                pick.shuffle(names)
                forms.append(right.form(pick, names))
            one, other = forms
            entries = heap(right.entries(pick, one) + right.entries(pick, other))
            old, new = work_out(one, entries), work_out(other, entries)
            self.assertEqual(report(one, old, other, new), model.report(one, old, other, new), (one, other))

    def test_arguments_stay(self):
        form = parse_form("section main\nquestion a; truth\nsection kid; repeats 2\nquestion x; truth\n")
        old, new = work_out(form, ()), work_out(form, heap_of(("a", "", YES)))
        names = ("a", "x")
        before = repr((form, old, new, names))
        report(form, old, form, new)
        renew(form, old, heap_of(("a", "", YES)), names)
        dependents(form, names)
        self.assertEqual(repr((form, old, new, names)), before)


if __name__ == "__main__":
    unittest.main()

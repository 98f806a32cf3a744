"""s1 to s6, with c9: the state over a heap."""

import random
import unittest

import model
import right
from formflow.entries import heap
from formflow.errors import BadForm
from formflow.formtext import parse_form
from formflow.reading import parse_expression
from formflow.state import accepts, state_at, work_out
from states import BLOCKED, HIDDEN, INVALID, NO, NOTHING, YES, heap_of, number, valued


def state_of(text, *told):
    """The state of a form over entries that are told as (name, row, value)."""
    return work_out(parse_form(text), heap_of(*told))


class StateTest(unittest.TestCase):
    def check(self, text, told, wanted):
        """Holds the states at some paths against the wanted ones."""
        found = state_of(text, *told)
        for path, state in wanted.items():
            self.assertEqual(state_at(found, path), state, (text, told, path))

    def check_x(self, line, told, wanted):
        """The state of a field x behind questions of all kinds."""
        text = ("section main\nquestion t; truth\nquestion n; integer\nquestion cs; choices; option o; option p\n"
                f"{line}\n")
        self.check(text, told, {("x", ""): wanted})


class SectionsTest(StateTest):
    def test_example(self):
        form = (("main", None, 0, (
            ("question", "kids", None, ("truth",), True),
            ("formula", "fee", parse_expression("kids"), parse_expression("10")))),)
        self.assertEqual(work_out(form, (("kids", "", 1, 1, YES),)), (
            (("main", True, ("",)),), ((("kids", ""), valued(YES)), (("fee", ""), valued(number(10))))))

    def test_visible(self):
        text = "section main\nquestion t; truth\nsection more; when t\nquestion x; truth\n"
        for value, sections in ((YES, ("more", True, ("",))), (NO, ("more", False, ())), (None, ("more", False, ())),
                                (number(1), ("more", False, ()))):
            found = state_of(text, ("t", "", value), ("x", "", YES))
            self.assertEqual(found[0], (("main", True, ("",)), sections))
            self.assertEqual(state_at(found, ("x", "")), valued(YES) if value == YES else HIDDEN)
            self.assertEqual([path for path, _ in found[1]], [("t", ""), ("x", "")][:1 + (value == YES)])

    def test_rows(self):
        text = "section kid; repeats 3\nquestion x; integer\n"
        for told, rows in (
                ((), ()),
                ((("kid", "a", number(1)),), ("a",)),
                ((("kid", "a", number(2)), ("kid", "b", number(1))), ("b", "a")),
                ((("kid", "b", number(1)), ("kid", "a", number(1))), ("a", "b")),
                ((("kid", "b", number(-1)), ("kid", "a", number(0)), ("kid", "c", number(-9999))), ("c", "b", "a")),
                ((("kid", "a", number(10)), ("kid", "b", number(9))), ("b", "a")),
                ((("kid", "1x10", number(1)), ("kid", "1x9", number(1))), ("1x10", "1x9")),
                ((("kid", "a", number(1)), ("kid", "b", None), ("kid", "c", number(3))), ("a", "c")),
                ((("kid", "a", YES), ("kid", "b", ("text", "1")), ("kid", "c", number(3))), ("c",)),
                (tuple(("kid", row, number(at)) for at, row in enumerate("edcba")), ("e", "d", "c")),
                (tuple(("kid", row, number(1)) for row in "edcba"), ("a", "b", "c"))):
            found = state_of(text, *told, ("x", "a", number(5)), ("x", "z", number(6)))
            self.assertEqual(found[0], (("kid", True, rows),))
            self.assertEqual(found[1], tuple((("x", row), valued(number(5)) if row == "a" else NOTHING) for row in rows))

    def test_most(self):
        told = [("kid", row, number(at)) for at, row in enumerate("abcdef")]
        for most in (1, 2, 3, 4):
            found = state_of(f"section kid; repeats {most}\nquestion x; truth\n", *told)
            self.assertEqual(found[0], (("kid", True, tuple("abcdef"[:most])),))

    def test_hidden_section_has_no_rows(self):
        text = "section main\nquestion t; truth\nsection kid; repeats 2; when t\nquestion x; truth\n"
        told = [("kid", "a", number(1)), ("x", "a", YES)]
        self.assertEqual(state_of(text, *told)[0][1], ("kid", False, ()))
        self.assertEqual(state_of(text, *told)[1], ((("t", ""), NOTHING),))
        self.assertEqual(state_of(text, ("t", "", YES), *told)[0][1], ("kid", True, ("a",)))
        self.assertEqual(state_of(text, ("t", "", YES), *told)[1][1], (("x", "a"), valued(YES)))

    def test_rows_of_a_section_that_does_not_repeat(self):
        text = "section main\nquestion x; truth\n"
        found = state_of(text, ("main", "a", number(1)), ("main", "", number(1)), ("x", "a", YES))
        self.assertEqual(found, ((("main", True, ("",)),), ((("x", ""), NOTHING),)))

    def test_no_row_without_an_id(self):
        text = "section kid; repeats 2\nquestion x; truth\n"
        found = state_of(text, ("kid", "", number(1)), ("x", "", YES), ("kid", "a", number(2)))
        self.assertEqual(found, ((("kid", True, ("a",)),), ((("x", "a"), NOTHING),)))

    def test_entries_of_other_names(self):
        text = "section main\nquestion x; truth\n"
        self.assertEqual(state_of(text, ("y", "", YES), ("z", "a", number(1)))[1], ((("x", ""), NOTHING),))

    def test_empty_sections(self):
        found = state_of("section a\nsection b; repeats 2\nsection c\nquestion x; truth\n", ("b", "r", number(1)))
        self.assertEqual(found, ((("a", True, ("",)), ("b", True, ("r",)), ("c", True, ("",))), ((("x", ""), NOTHING),)))

    def test_order_of_paths(self):
        text = ("section a\nquestion x; truth\nquestion u; truth\nsection b; repeats 2\nquestion z; truth\n"
                "question v; truth\nsection c\nquestion w; truth\n")
        found = state_of(text, ("b", "p", number(2)), ("b", "q", number(1)))
        self.assertEqual([path for path, _ in found[1]],
                         [("x", ""), ("u", ""), ("z", "q"), ("v", "q"), ("z", "p"), ("v", "p"), ("w", "")])

    def test_form_with_issues(self):
        for text in ("section a\nquestion a; truth\n", "section a; when 1\nquestion x; truth\n",
                     "section a\nformula f; is zz\n", "section a\nquestion x; choice; option o; option o\n"):
            with self.assertRaises(BadForm):
                work_out(parse_form(text), ())


class EnvironmentTest(StateTest):
    TEXT = ("section main\nquestion n; integer\nsection kid; repeats 4\nquestion on; truth\n"
            "question age; integer; when on ?? yes\nformula dbl; is age * 2 + n ?? 0\nformula nr; is row\n"
            "section end\nformula s; is sum(age)\nformula d; is sum(dbl)\nformula c; is count(kid)\n"
            "formula g; is greatest(age) ?? -1\nformula o; is any(on)\nformula m; is n\n")

    def rows(self, *ages):
        told = [("kid", row, number(at)) for at, row in zip(range(1, 9), "dcba")][:len(ages)]
        return told + [("age", row, age) for row, age in zip("dcba", ages)]

    def test_row_and_path(self):
        self.check(self.TEXT, [("n", "", number(100)), ("n", "d", number(7))] + self.rows(number(1), number(2)), {
            ("dbl", "d"): valued(number(102)), ("dbl", "c"): valued(number(104)), ("nr", "d"): valued(number(1)),
            ("nr", "c"): valued(number(2)), ("m", ""): valued(number(100)), ("age", "b"): HIDDEN})

    def test_over_rows(self):
        self.check(self.TEXT, self.rows(number(3), number(4), number(5)), {
            ("s", ""): valued(number(12)), ("d", ""): valued(number(24)), ("c", ""): valued(number(3)),
            ("g", ""): valued(number(5)), ("o", ""): valued(None)})
        self.check(self.TEXT, [], {("s", ""): valued(number(0)), ("c", ""): valued(number(0)),
                                   ("g", ""): valued(number(-1)), ("o", ""): valued(NO)})

    def test_rows_in_which_it_is_hidden_do_not_count(self):
        told = self.rows(number(3), None, number(5)) + [("on", "c", NO)]
        self.check(self.TEXT, told, {
            ("s", ""): valued(number(8)), ("c", ""): valued(number(3)), ("age", "c"): HIDDEN,
            ("dbl", "c"): valued(None), ("d", ""): valued(None)})
        told = self.rows(number(3), None, number(5))
        self.check(self.TEXT, told, {("s", ""): valued(None), ("age", "c"): NOTHING})
        told = self.rows(number(3), YES, number(5))
        self.check(self.TEXT, told, {("s", ""): valued(None), ("age", "c"): INVALID})

    def test_rows_that_are_not_active_do_not_count(self):
        text = ("section main\nquestion t; truth\nsection kid; repeats 1; when t\nquestion age; integer\n"
                "section end\nformula s; is sum(age)\nformula c; is count(kid)\n")
        told = [("kid", "a", number(1)), ("kid", "b", number(2)), ("age", "a", number(4)), ("age", "b", number(8)),
                ("age", "c", number(16))]
        self.check(text, told + [("t", "", YES)], {("s", ""): valued(number(4)), ("c", ""): valued(number(1))})
        self.check(text, told + [("t", "", NO)], {("s", ""): valued(number(0)), ("c", ""): valued(number(0))})

    def test_same_row_of_another_section(self):
        text = ("section a; repeats 2\nquestion x; integer\nsection b; repeats 2\nquestion y; integer\nformula z; is y\n"
                "section c\nformula s; is sum(x)\nformula u; is sum(y)\n")
        told = [("a", "r", number(1)), ("b", "q", number(1)), ("b", "r", number(2)), ("x", "r", number(4)),
                ("y", "r", number(8)), ("y", "q", number(16))]
        self.check(text, told, {("z", "r"): valued(number(8)), ("z", "q"): valued(number(16)), ("s", ""): valued(number(4)),
                                ("u", ""): valued(number(24))})

    def test_condition_of_a_section(self):
        text = ("section a; repeats 2\nquestion x; integer\nsection b; when count(a) = 2 and sum(x) > 3\n"
                "question y; truth\nsection c; repeats 2; when y\nquestion z; truth\n")
        told = [("a", "p", number(1)), ("a", "q", number(2)), ("x", "p", number(1)), ("y", "", YES), ("c", "r", number(1))]
        self.assertEqual([visible for _, visible, _ in state_of(text, *told)[0]], [True, False, False])
        self.assertEqual([visible for _, visible, _ in state_of(text, *told, ("x", "q", number(3)))[0]], [True] * 3)
        self.assertEqual([visible for _, visible, _ in state_of(text, *told, ("x", "q", number(2)))[0]],
                         [True, False, False])

    def test_hidden_values_do_not_count(self):
        text = ("section main\nquestion t; truth\nquestion x; integer; when t\nformula f; is x ?? 1\n"
                "formula g; is answered(x)\nsection more; when t\nquestion y; integer\nsection end\nformula h; is y\n")
        told = [("x", "", number(5)), ("y", "", number(6))]
        self.check(text, told, {("x", ""): HIDDEN, ("f", ""): valued(number(1)), ("g", ""): valued(NO), ("h", ""): valued(None)})
        self.check(text, told + [("t", "", YES)], {("x", ""): valued(number(5)), ("f", ""): valued(number(5)),
                                                   ("g", ""): valued(YES), ("h", ""): valued(number(6))})


class FieldsTest(StateTest):
    def test_conditions(self):
        for line in ("question x; truth; when t", "formula x; is yes; when t", "rule x; is yes; when t; says x"):
            self.check_x(line, [("x", "", YES)], HIDDEN)
            self.check_x(line, [("x", "", YES), ("t", "", NO)], HIDDEN)
            self.check_x(line, [("x", "", YES), ("t", "", number(1))], HIDDEN)
            self.check_x(line, [("x", "", YES), ("t", "", YES)], valued(YES))

    def test_formulas_and_rules(self):
        for line in ("formula x; is n > 3", "rule x; is n > 3; says x", "rule x; is n > 3; blocking; says x"):
            self.check_x(line, [], valued(None))
            self.check_x(line, [("n", "", number(3))], valued(NO))
            self.check_x(line, [("n", "", number(4))], valued(YES))
            # An entry at their path is not looked at.
            self.check_x(line, [("n", "", number(4)), ("x", "", NO)], valued(YES))
        self.check_x("formula x; is n * 9999", [("n", "", number(100))], valued(number(999900)))
        self.check_x("formula x; is n * 9999", [("n", "", number(101))], valued(None))

    def test_truths(self):
        for value, wanted in ((YES, valued(YES)), (NO, valued(NO)), (None, NOTHING), (number(1), INVALID),
                              (("text", "yes"), INVALID), (("option", "yes1"), INVALID), (("options", ()), INVALID)):
            self.check_x("question x; truth", [("x", "", value)], wanted)
        self.check_x("question x; truth", [], NOTHING)

    def test_integers(self):
        for line, worths, others in (
                ("question x; integer", (0, -9999, 9999), ()),
                ("question x; integer; least 3", (3, 9999), (2, -9999)),
                ("question x; integer; greatest 3", (3, -9999), (4, 9999)),
                ("question x; integer; least -1; greatest 1", (-1, 0, 1), (-2, 2)),
                ("question x; integer; least 4; greatest 4", (4,), (3, 5)),
                ("question x; integer; least 9999", (9999,), (9998,)),
                ("question x; integer; greatest -9999", (-9999,), (-9998,)),
                ("question x; integer; least -9999 - 1; greatest 9999 + 1", (-9999, 9999), ())):
            self.check_x(line, [], NOTHING)
            for worth in worths:
                self.check_x(line, [("x", "", number(worth))], valued(number(worth)))
            for worth in others:
                self.check_x(line, [("x", "", number(worth))], INVALID)
            for value in (YES, ("text", "4"), ("option", "o"), ("options", ())):
                self.check_x(line, [("x", "", value)], INVALID)

    def test_open_bounds(self):
        self.check_x("question x; integer; least n", [("x", "", number(-50))], valued(number(-50)))
        self.check_x("question x; integer; greatest n", [("x", "", number(50))], valued(number(50)))
        self.check_x("question x; integer; least n; greatest 3", [("x", "", number(4))], INVALID)
        self.check_x("question x; integer; least n; greatest 3", [("n", "", number(4))], BLOCKED)
        self.check_x("question x; integer; least n", [("n", "", number(4)), ("x", "", number(3))], INVALID)
        self.check_x("question x; integer; least n", [("n", "", YES), ("x", "", number(3))], valued(number(3)))
        self.check_x("question x; integer; least n * 9999", [("n", "", number(9999)), ("x", "", number(3))],
                     valued(number(3)))

    def test_blocked_integers(self):
        for line in ("question x; integer; least 5; greatest 4", "question x; integer; least 9999 + 1",
                     "question x; integer; greatest -9999 - 1", "question x; integer; least 1; greatest 0; required"):
            self.check_x(line, [], BLOCKED)
            self.check_x(line, [("x", "", None)], BLOCKED)
            # With another value it is invalid, and so not blocked.
            self.check_x(line, [("x", "", number(4))], INVALID)
            self.check_x(line, [("x", "", YES)], INVALID)

    def test_numbers_that_are_none_of_entries(self):
        for worth in (10000, -10000):
            self.check_x("question x; integer", [("x", "", number(worth))], INVALID)

    def test_choices_of_one(self):
        line = "question x; choice; option o; option p when t; option q when n > 1"
        self.check_x(line, [], NOTHING)
        for name, more, wanted in (
                ("o", [], True), ("p", [], False), ("p", [("t", "", YES)], True), ("p", [("t", "", NO)], False),
                ("q", [("t", "", YES)], False), ("q", [("n", "", number(2))], True), ("r", [("t", "", YES)], False)):
            value = ("option", name)
            self.check_x(line, [("x", "", value)] + more, valued(value) if wanted else INVALID)
        for value in (YES, number(1), ("text", "o"), ("options", ("o",)), ("options", ())):
            self.check_x(line, [("x", "", value)], INVALID)

    def test_blocked_choices(self):
        line = "question x; choice; option o when t; option p when t"
        self.check_x(line, [], BLOCKED)
        self.check_x(line, [("x", "", None)], BLOCKED)
        self.check_x(line, [("x", "", ("option", "o"))], INVALID)
        self.check_x(line, [("t", "", YES)], NOTHING)
        self.check_x("question x; choice; option o when n > 0", [("n", "", number(0))], BLOCKED)

    def test_choices_of_many(self):
        line = "question x; choices; option p; option o when t; option q when n > 1"
        for names, more, wanted in (
                ((), [], True), (("p",), [], True), (("o",), [], False), (("o", "p"), [], False),
                (("o", "p"), [("t", "", YES)], True), (("o", "p", "q"), [("t", "", YES)], False),
                (("p", "q"), [("n", "", number(2))], True), (("r",), [("t", "", YES)], False)):
            value = ("options", names)
            self.check_x(line, [("x", "", value)] + more, valued(value) if wanted else INVALID)
        for value in (YES, number(1), ("text", ""), ("option", "p")):
            self.check_x(line, [("x", "", value)], INVALID)
        # No options are an answer, too, so it is never blocked.
        self.check_x("question x; choices; option o when t", [], NOTHING)
        self.check_x("question x; choices; option o when t", [("x", "", ("options", ()))], valued(("options", ())))

    def test_texts(self):
        for longest in (1, 5, 20):
            line = f"question x; text {longest}"
            self.check_x(line, [], NOTHING)
            for text, wanted in (("", True), ("a" * longest, True), ("a" * (longest + 1), False), ("\n", True),
                                 ("\u20ac" * longest, True)):
                self.check_x(line, [("x", "", ("text", text))], valued(("text", text)) if wanted else INVALID)
            for value in (YES, number(1), ("option", "o"), ("options", ())):
                self.check_x(line, [("x", "", value)], INVALID)

    def test_options_of_rows(self):
        text = ("section kid; repeats 3\nquestion t; truth\nquestion x; choice; option o when t; option p when row = 2\n"
                "question y; integer; least row\n")
        told = [("kid", "a", number(1)), ("kid", "b", number(2)), ("t", "a", YES)]
        self.check(text, told, {("x", "a"): NOTHING, ("x", "b"): NOTHING})
        told = told + [("x", "a", ("option", "p")), ("x", "b", ("option", "p")), ("y", "a", number(1)), ("y", "b", number(1))]
        self.check(text, told, {("x", "a"): INVALID, ("x", "b"): valued(("option", "p")),
                                ("y", "a"): valued(number(1)), ("y", "b"): INVALID})
        self.check(text, [("kid", "a", number(1))], {("x", "a"): BLOCKED})


class StateAtTest(unittest.TestCase):
    def test_state_at(self):
        found = state_of("section kid; repeats 2\nquestion x; truth\nquestion y; truth; when x\n",
                         ("kid", "a", number(1)), ("x", "a", YES), ("kid", "b", number(2)))
        for path, state in found[1]:
            self.assertEqual(state_at(found, path), state)
        self.assertEqual(state_at(found, ("x", "a")), valued(YES))
        self.assertEqual(state_at(found, ("y", "b")), HIDDEN)
        for path in (("x", "c"), ("x", ""), ("kid", "a"), ("z", "a"), ("a", "x")):
            self.assertEqual(state_at(found, path), HIDDEN)


class AcceptsTest(unittest.TestCase):
    def check(self, line, row, fitting, others):
        form = parse_form("section main\nquestion t; truth\nquestion n; integer\nsection kid; repeats 2\n"
                          f"question k; integer\n{line}\n")
        entries = heap([("t", "", 1, 1, YES), ("n", "", 1, 1, number(5)), ("kid", "a", 1, 1, number(3)),
                        ("kid", "b", 1, 1, number(4)), ("k", "a", 1, 1, number(2)), ("k", "b", 1, 1, number(9))])
        state = work_out(form, entries)
        for value in fitting:
            self.assertIs(accepts(form, state, ("x", row), value), True, (line, row, value))
        for value in others + (None, ("truth", 1), ("options", ("p", "o")), (), "yes", number(10000)):
            self.assertIs(accepts(form, state, ("x", row), value), False, (line, row, value))

    def test_in_any_row(self):
        for row in "ab":
            self.check("question x; truth", row, (YES, NO), (number(1), ("text", "yes")))
            self.check("question x; text 3", row, (("text", ""), ("text", "abc")), (("text", "abcd"), YES))
            self.check("question x; integer", row, (number(9999), number(-9999)), (YES,))
            self.check("question x; integer; least 2; greatest 1", row, (), (number(1), number(2)))
            self.check("question x; integer; least n", row, (number(5), number(6)), (number(4),))

    def test_in_its_own_row(self):
        line = "question x; integer; greatest k"
        self.check(line, "a", (number(2), number(-9999)), (number(3),))
        self.check(line, "b", (number(9), number(-9999)), (number(10),))
        line = "question x; integer; least row; greatest row"
        self.check(line, "a", (number(1),), (number(0), number(2)))
        self.check(line, "b", (number(2),), (number(1), number(3)))
        line = "question x; choice; option o when t; option p when row = 1; option q when k = 9"
        self.check(line, "a", (("option", "o"), ("option", "p")), (("option", "q"), ("option", "r"), YES))
        self.check(line, "b", (("option", "o"), ("option", "q")), (("option", "p"), ("options", ("o",))))
        line = line.replace("choice", "choices")
        self.check(line, "a", (("options", ()), ("options", ("o", "p"))), (("options", ("o", "q")), ("option", "o")))
        self.check(line, "b", (("options", ()), ("options", ("o", "q"))), (("options", ("o", "p")), ("option", "q")))

    def test_what_is_no_visible_question(self):
        form = parse_form("section main\nquestion t; truth\nquestion x; truth; when t\nformula f; is yes\n"
                          "rule r; is yes; says r\nsection kid; repeats 2; when t\nquestion y; truth\n")
        state = work_out(form, (("kid", "a", 1, 1, number(1)),))
        for path in (("x", ""), ("f", ""), ("r", ""), ("y", "a"), ("y", ""), ("t", "a"), ("z", ""), ("main", "")):
            self.assertIs(accepts(form, state, path, YES), False, path)
        self.assertIs(accepts(form, state, ("t", ""), YES), True)

    def test_same_as_worked_out(self):
        pick = random.Random(14)
        tried = 0
        for _ in range(200):
            form = right.form(pick)
            entries = heap(right.entries(pick, form))
            state = work_out(form, entries)
            answers = {field[1]: field[3] for section in form for field in section[3] if field[0] == "question"}
            for path, (visible, _, _, _) in state[1]:
                if visible and path[0] in answers:
                    tried += 1
                    value = right.value(pick, answers[path[0]])
                    then = work_out(form, heap(entries + ((*path, 99, 1, value),)))
                    self.assertEqual(accepts(form, state, path, value), state_at(then, path)[1] == value)
        self.assertGreater(tried, 500)


class RandomTest(unittest.TestCase):
    def test_beside_the_model(self):
        pick = random.Random(15)
        found = set()
        for _ in range(500):
            form = right.form(pick)
            entries = heap(right.entries(pick, form))
            state = work_out(form, entries)
            self.assertEqual(state, model.State(form, entries).whole(), (form, entries))
            found |= {(visible, invalid, blocked) for _, (visible, _, invalid, blocked) in state[1]}
        self.assertEqual(found, {(False, False, False), (True, False, False), (True, True, False), (True, False, True)})


if __name__ == "__main__":
    unittest.main()

"""p1 to p3: templates."""

import random
import re
import unittest

import model
import right
from deeds import outcome, random_deed
from formflow.errors import BadTemplate, BadText
from formflow.formtext import parse_form
from formflow.reading import parse_expression
from formflow.response import Response
from formflow.templates import check_template, write
from formflow.writing import expression_text
from shapes import FUNCTIONS, random_expression
from states import NO, YES, number

FORM = parse_form(
    "section main\nquestion t; truth\nquestion n; integer\nquestion way; choice; option bus; option car\n"
    "question likes; choices; option a; option b\nquestion note; text 20\nquestion none; text 20; when no\n"
    "section kid; repeats 3; when t\nquestion age; integer\nquestion name; text 9\nquestion toys; choices; option a; option b\n"
    "formula big; is age > row; when age <> 0\n"
    "section trip; repeats 2\nquestion km; integer\nsection end\nrule cap; is sum(age) < 30; says cap\n")


def filled():
    response = Response("camp", 1, FORM)
    for name, value in (("t", YES), ("n", number(-7)), ("way", ("option", "car")), ("likes", ("options", ("a", "b"))),
                        ("note", ("text", "a {b} \\ \n}{"))):
        response.put((name, ""), value)
    rows = [response.add("kid")[0] for _ in range(2)]
    for name, row, value in (("age", rows[0], number(8)), ("age", rows[1], number(2)), ("name", rows[0], ("text", "ann"))):
        response.put((name, row), value)
    return response


class WriteTest(unittest.TestCase):
    def setUp(self):
        self.response = filled()

    def check(self, template, wanted):
        self.assertIsNone(check_template(FORM, template))
        before = repr((self.response.entries(), self.response.state(), self.response.journal()))
        self.assertEqual(write(self.response, template), wanted)
        self.assertEqual(repr((self.response.entries(), self.response.state(), self.response.journal())), before)

    def test_text(self):
        for text in ("", "a", " a\n\n b ", "}", "a } b }}", "\u20ac\t", "end", "each kid", "if t", "\\n", "x" * 400):
            self.check(text, text)

    def test_values(self):
        for tag, wanted in (("t", "yes"), ("not t", "no"), ("n", "-7"), ("-n", "7"), ("n + 7", "0"), ("sum(age) * 9999 * 10 + 100", "1000000"),
                            ("way", "car"), ("'bus'", "bus"), ("likes", "a,b"), ("note", "a {b} \\ \n}{"), ("none", ""),
                            ("no", "no"), ("count(kid)", "2"), ("count(trip)", "0"), ("sum(age)", "10"),
                            ("least(age)", "2"), ("any(big)", "yes"), ("all(big)", "no"), ("has(likes, 'b')", "yes"),
                            ("answered(note)", "yes"), ("answered(none)", "no"), ("sum(km)", "0"),
                            ("if t then 'x' else way", "x"), ("n ?? 4", "-7")):
            self.check("{" + tag + "}", wanted)
            self.check("<{ " + tag + "  }>", f"<{wanted}>")

    def test_open_ones(self):
        for tag in ("none", "least(km)", "n + least(km)", "sum(age) * 9999 * 10 + 101", "(none)"):
            self.check("[{" + tag + "}]", "[]")
        self.response.clear(("likes", ""))
        self.check("{likes}{has(likes, 'a')}", "")
        self.response.put(("likes", ""), ("options", ()))
        self.check("{likes}{has(likes, 'a')}", "no")
        self.response.put(("likes", ""), ("options", ("b",)))
        self.check("{likes}", "b")
        self.response.put(("note", ""), ("text", ""))
        self.check("{note}{answered(note)}", "yes")

    def test_if(self):
        for test, wanted in (("t", True), ("not t", False), ("n < 0", True), ("least(km) > 0", False), ("way = 'car'", True),
                             ("answered(none)", False), ("(t)", True), (" t ", True), ("if t then no else yes", False),
                             ("if t then t else t", True)):
            self.check("a{if " + test + "}b{end}c", "abc" if wanted else "ac")

    def test_if_that_is_an_expression(self):
        self.check("{if t then 1 else 2}", "1")
        self.check("{if n > 0 then 1 else 2}.", "2.")
        self.check("{if t}{if t then 1 else 2}{end}", "1")

    def test_ifs_within_one_another(self):
        self.check("{if t}1{if not t}2{if t}3{end}4{end}5{if t}6{end}7{end}8", "15678")
        self.check("{if not t}1{if t}2{end}3{end}4", "4")
        self.check("{if t}" * 36 + "x" + "{end}" * 36, "x")

    def test_each(self):
        self.check("{each kid}<{age}>{end}", "<8><2>")
        self.check("{each kid}{row}{name}{big}{toys},{end}", "1annyes,2no,")
        self.check("{each kid}{end}", "")
        self.check("{each kid}{count(kid)}{sum(age)}{n}{way}{end}", "210-7car210-7car")
        self.check("{each trip}{km}{end}{each kid}{age}{end}", "82")
        self.check("{each kid}{if age > 5}{row}:{if answered(name)}{name}{end};{end}{end}", "1:ann;")
        self.check("{if t}{each kid}{age}{end}{end}{each kid}{row}{end}", "8212")

    def test_order_of_rows(self):
        self.response.order("kid", ("1x7", "1x6"))
        self.check("{each kid}{row}={age};{end}", "1=2;2=8;")

    def test_rows_beyond_most(self):
        entries = tuple(("kid", row, 1, 2, number(50)) for row in "abc")
        self.response.merge(("camp", (), ((2, 1),), entries))
        self.check("{each kid}{age}.{end}{count(kid)}", "8.2..3")

    def test_hidden_ones(self):
        self.response.put(("t", ""), NO)
        self.check("a{each kid}{age}{end}b{count(kid)}{sum(age)}", "ab00")
        self.check("{none}{if answered(none)}x{end}", "")

    def test_no_rows(self):
        self.check("a{each trip}x{km}{end}b", "ab")

    def test_same_row_in_two_sections(self):
        self.response.merge(("camp", (), ((2, 1),), (("trip", "1x6", 1, 2, number(1)), ("km", "1x6", 1, 2, number(5)))))
        self.check("{each kid}{age};{end}{each trip}{km}{row}{end}", "8;2;51")
        self.check("{each trip}{sum(age)}{end}", "10")

    def test_words_that_are_names(self):
        form = parse_form("section main\nquestion end; truth\nquestion each; integer\nquestion kid; integer\n")
        response = Response("camp", 1, form)
        for name, value in (("end", YES), ("each", number(5)), ("kid", number(1))):
            response.put((name, ""), value)
        self.assertEqual(write(response, "{end } { end} {each} { each + kid} {(end)}"), "yes yes 5 6 yes")
        self.assertEqual(write(response, "{if end}1{end}"), "1")

    def test_new_editions(self):
        self.response.change_form(parse_form("section main\nquestion n; integer\n"))
        self.assertEqual(write(self.response, "{n}"), "-7")
        with self.assertRaises(BadTemplate):
            write(self.response, "{t}")


class RefusedTest(unittest.TestCase):
    def check(self, template, place, reason):
        for tell in (lambda: check_template(FORM, template), lambda: write(Response("camp", 1, FORM), template)):
            with self.assertRaises(BadTemplate) as caught:
                tell()
            self.assertEqual((caught.exception.place, caught.exception.reason), (place, reason), template)

    def test_too_long(self):
        self.check("x" * 401, 0, "too long")
        self.check("{" + "x" * 400, 0, "too long")
        self.check("{end}{" * 70, 0, "too long")
        self.assertIsNone(check_template(FORM, "x" * 400))
        self.assertIsNone(check_template(FORM, "{t}" * 133 + "x"))

    def test_no_end_of_a_tag(self):
        for template, place in (("{", 0), ("ab{", 2), ("{t", 0), ("{t}{", 3), ("a{t}b{t{", 5), ("{{t}{", 4), ("}{", 1)):
            self.check(template, place, "no end of a tag")

    def test_no_end_ahead_of_all_others(self):
        for wrong in ("{end}", "{each none}", "{zz zz}", "{note ?? note}", "{if n}{end}", "{if t}", "{each kid}{each kid}", "{}"):
            self.check(wrong + "x{t", len(wrong) + 1, "no end of a tag")

    def test_no_section(self):
        for tag in ("each none", "each main", "each ", "each  kid", "each kid ", "each kid trip", "each Kid", "each age", "each t",
                    "each + 1", "each kid,trip", "each 'kid'", "each end"):
            self.check("a{" + tag + "}b{end}", 1, "no section")

    def test_each_within_an_each(self):
        self.check("{each kid}{each kid}{end}{end}", 10, "no section")
        self.check("{each kid}{each trip}{end}{end}", 10, "no section")
        self.check("{each kid}{if t}{each trip}{end}{end}{end}", 16, "no section")
        self.assertIsNone(check_template(FORM, "{each kid}{end}{each kid}{end}{if t}{each trip}{end}{end}"))

    def test_no_block(self):
        self.check("{end}", 0, "no block")
        self.check("a{if t}b{end}c{end}d", 14, "no block")
        self.check("{each kid}{end}{end}", 15, "no block")

    def test_no_expression(self):
        for tag in ("", " ", "a b", "1 +", "(t", "A", "if", "if ", "if(t)", "if\tt", "if t then 1", "if t then 1 else", " if t",
                    "if if t", "ift t", "endd e", " end t", "if 1 2", "t{t", "\n", "t\n", "01", "10000", "t;", "end,", "each,",
                    "if t then", "IF t", "not", "if t;"):
            self.check("ab{" + tag + "}", 2, "no expression")

    def test_long_expressions(self):
        # Of 150 characters at most, as everywhere.
        fits = "t" + " " * 149
        self.assertIsNone(check_template(FORM, "{" + fits + "}"))
        self.check("{ " + fits + "}", 0, "no expression")
        self.assertIsNone(check_template(FORM, "{if " + fits + "}{end}"))
        self.check("{if  " + fits + "}{end}", 0, "no expression")

    def test_kind(self):
        for tag in ("zz", "main", "kid", "trip", "cap", "age", "name", "big", "km", "row", "age + 1", "n and t", "t + 1",
                    "note ?? note", "likes = likes", "note = note", "if t then note else note", "sum(n)", "sum(name)", "count(main)",
                    "count(age)", "any(age)", "has(note, 'a')", "has(toys, 'a')", "answered(age)", "answered(cap)", "has(zz, 'a')",
                    "not n", "-t", "if n then 1 else 2", "if t then 1 else t", "row = 1", "count(zz)", "all(age)"):
            self.check("x{" + tag + "}", 1, "kind")

    def test_kind_of_an_if(self):
        for tag in ("n", "way", "likes", "note", "zz", "age", "1", "'a'", "n + 1", "count(kid)", "row", "cap", "age > 1",
                    "answered(name)", "if t then 1 else 2", "note = note", "none"):
            self.check("{if " + tag + "}{end}", 0, "kind")

    def test_kind_within_an_each(self):
        for tag in ("km", "kid", "cap", "sum(n)", "count(age)", "trip", "name ?? note", "toys = toys", "has(name, 'a')"):
            self.check("{each kid}{" + tag + "}{end}", 10, "kind")
        for tag in ("age", "name", "toys", "big", "row", "row = age", "has(toys, 'a')", "answered(name)", "count(kid)", "sum(age)",
                    "sum(km)", "n", "note", "likes", "none", "if big then row else n"):
            self.assertIsNone(check_template(FORM, "{each kid}{" + tag + "}{end}"))
        # Behind its end its fields can be read no more.
        self.check("{each kid}{age}{end}{age}", 20, "kind")
        self.check("{each kid}{row}{end}{row}", 20, "kind")
        self.check("{each kid}{if age > 1}{age}{end}{end}{if age > 1}{end}", 37, "kind")
        self.assertIsNone(check_template(FORM, "{each kid}{if t}{age}{end}{age}{end}"))

    def test_open_block(self):
        self.check("{if t}", 0, "open block")
        self.check("a{each kid}b", 1, "open block")
        self.check("{if t}{each kid}", 6, "open block")
        self.check("{if t}{each kid}{end}", 0, "open block")
        self.check("{if t}{if t}{end}{if t}{if t}{end}", 17, "open block")

    def test_first_one_counts(self):
        self.check("{if t}{zz}", 6, "kind")
        self.check("{if t}{zz zz}", 6, "no expression")
        self.check("{if n}{end}{end}", 0, "kind")
        self.check("{end}{zz}", 0, "no block")
        self.check("{t}{each zz}{end}{end}", 3, "no section")
        self.check("{zz zz}{end}", 0, "no expression")


class RandomTest(unittest.TestCase):
    """Random templates, held against the model's kinds and values."""

    def template(self, pick, form):
        """A template, mostly one without faults."""
        repeating = [section for section in form if section[2] > 0]
        template, blocks = "", []
        for _ in range(pick.randrange(1, 9)):
            inside = [section for section in blocks if section is not None]
            chance = pick.random()
            if chance < 0.06:
                tag = pick.choice(("each " + form[0][0], "end ", "if", "if x", "a b", "", "if yes then 1 else 2", "end"))
            elif chance < 0.2 and blocks:
                blocks.pop()
                tag = "end"
            elif chance < 0.4 and repeating and not inside:
                blocks.append(pick.choice(repeating))
                tag = "each " + blocks[-1][0]
            elif chance < 0.6:
                blocks.append(None)
                tag = "if " + self.expression(pick, form, inside, "truth")
            else:
                tag = self.expression(pick, form, inside, None)
            template += pick.choice(("", "", "a", "}", " ")) + "{" + tag + "}"
        return template + pick.choice(("x{end}" * len(blocks),) * 12 + ("", "{", "{t"))

    def expression(self, pick, form, inside, wanted):
        """The text of an expression, mostly one that can stand there."""
        names = [name for section in form for name in [section[0]] + [field[1] for field in section[3]]]
        names += [field[1] for section in inside for field in section[3]] * 2
        for _ in range(15):
            name, other = pick.choice(names), pick.choice(names)
            expression = pick.choice((
                ("name", name), ("name", name), ("row",), ("truth", True), ("op", ">", ("row",), ("number", 1)),
                ("op", "=", ("name", name), ("name", name)), ("ask", pick.choice(FUNCTIONS), name),
                ("ask", "answered", other), ("has", other, "o"), random_expression(pick, 1, names)))
            reason, node = self.node(form, inside[0] if inside else None, expression_text(expression))
            if not reason and wanted in (None, node[3]) or pick.random() < 0.02:
                break
        return expression_text(expression)

    def expected(self, form, state, template):
        """(text) or (place, reason), in another way: the text is gone through tag by tag."""
        lone = re.search(r"\{[^}]*$", template)
        if lone:
            return lone.start(), "no end of a tag"
        root = []
        stack = [(None, None, root)]
        for found in re.finditer(r"\{([^}]*)\}|[^{]+", template, re.DOTALL):
            place, told = found.start(), found.group(1)
            around = [section for _, section, _ in stack if section is not None]
            inside = around[0] if around else None
            if told is None:
                stack[-1][2].append(found.group())
            elif told == "end":
                if len(stack) == 1:
                    return place, "no block"
                stack.pop()
            elif told.startswith("each "):
                sections = [section for section in form if section[0] == told[5:] and section[2]]
                if not sections or inside:
                    return place, "no section"
                stack[-1][2].append(("each", sections[0], []))
                stack.append((place, sections[0], stack[-1][2][-1][2]))
            else:
                reason, node = self.node(form, inside, told)
                if reason:
                    return place, reason
                stack[-1][2].append(node)
                if node[0] == "if":
                    stack.append((place, None, node[2]))
        if len(stack) > 1:
            return stack[-1][0], "open block"
        return self.text(root, state, ("", None, 0, ()), None)

    def node(self, form, inside, told):
        for head, text in (("value", told), ("if", told[3:] if told.startswith("if ") else "(")):
            try:
                expression = parse_expression(text)
            except BadText:
                continue
            # Within an each the kinds are those at the end of a section with the same fields.
            place, seen = (len(form), None), form
            if inside is not None:
                seen = form + (("zzzzzz", None, 1, inside[3]),)
                place = (len(form), len(inside[3]))
            kind = model.kind(seen, place, expression)
            alone = expression[0] == "name" and model.by_name(seen, place, expression[1])
            if head == "if" and kind != "truth" or head == "value" and not kind and not alone:
                return "kind", None
            return None, (head, expression, [], kind)
        return "no expression", None

    def text(self, nodes, state, section, row):
        found = ""
        for node in nodes:
            if isinstance(node, str):
                found += node
            elif node[0] == "each":
                found += "".join(self.text(node[2], state, node[1], at) for at in state.rows[node[1][0]] or ())
            else:
                value = state.value(node[1], section, row)
                if node[0] == "if":
                    found += self.text(node[2], state, section, row) if value == YES else ""
                elif value is not None:
                    found += {"truth": lambda worth: "yes" if worth else "no", "number": str, "option": str, "text": str,
                              "options": ",".join}[value[0]](value[1])
        return found

    def test_random_templates(self):
        pick = random.Random(44)
        seen = {}
        for _ in range(150):
            form = right.form(pick)
            response = Response("camp", 1, form)
            for _ in range(25):
                outcome(response, random_deed(pick, response))
            state = model.State(form, response.entries())
            for _ in range(25):
                template = self.template(pick, form)
                if len(template) > 400:
                    continue
                wanted = self.expected(form, state, template)
                try:
                    found = write(response, template)
                    self.assertIsNone(check_template(form, template))
                except BadTemplate as error:
                    found = (error.place, error.reason)
                    with self.assertRaises(BadTemplate):
                        check_template(form, template)
                self.assertEqual(found, wanted, template)
                kind = found[1] if isinstance(found, tuple) else "each" if "{each" in template else "text"
                seen[kind] = seen.get(kind, 0) + 1
        for kind in ("no end of a tag", "no section", "no block", "no expression", "kind", "open block", "text", "each"):
            self.assertGreater(seen.get(kind, 0), 20, seen)


if __name__ == "__main__":
    unittest.main()

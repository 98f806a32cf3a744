"""c4, c5 and what d1 calls reading: the parts of forms and the names in them."""

import unittest

from formflow.formtext import parse_form
from formflow.forms import expressions_of, field_of, fields_of, names_in, section_of
from formflow.reading import parse_expression

TEXT = """section main
question kids; truth; required
formula fee; is 10; when kids
section none; when kids
section kid; repeats 2
question age; integer; least a; greatest b; when c
rule ok; is age > 3; when d; says no
"""


class FormsTest(unittest.TestCase):
    def setUp(self):
        self.form = parse_form(TEXT)

    def test_fields_of(self):
        main, _, kid = self.form
        self.assertEqual(fields_of(self.form),
                         ((main, main[3][0]), (main, main[3][1]), (kid, kid[3][0]), (kid, kid[3][1])))
        self.assertEqual(fields_of((("main", None, 0, ()),)), ())

    def test_section_of(self):
        for section in self.form:
            self.assertEqual(section_of(self.form, section[0]), section)
        for name in ("age", "other", ""):
            self.assertIsNone(section_of(self.form, name))

    def test_field_of(self):
        for _, field in fields_of(self.form):
            self.assertEqual(field_of(self.form, field[1]), field)
        for name in ("main", "kid", "question", "other", ""):
            self.assertIsNone(field_of(self.form, name))

    def test_first_one_with_a_name(self):
        form = parse_form("section a\nquestion x; truth\nquestion x; text 3\n"
                          "section a; repeats 1\nquestion x; integer\n")
        self.assertEqual(section_of(form, "a"), form[0])
        self.assertEqual(field_of(form, "x"), form[0][3][0])
        self.assertEqual(field_of(form[1:], "x"), form[1][3][0])


class NamesTest(unittest.TestCase):
    def check(self, text, names):
        self.assertEqual(names_in(parse_expression(text)), names)

    def test_names_in(self):
        self.check("1 + 2 = row", ())
        self.check("'o' = 'p' and yes", ())
        self.check("a", ("a",))
        self.check("b + a * c", ("b", "a", "c"))
        self.check("a + b + a", ("a", "b"))
        self.check("if c then b else a", ("c", "b", "a"))
        self.check("not (b or -a > 1)", ("b", "a"))
        self.check("sum(m) + (a - m)", ("m", "a"))
        self.check("a - b - (c - a) ?? d", ("a", "b", "c", "d"))
        self.check("has(x, 'o') and x = 'p'", ("x",))
        for function in ("answered", "count", "sum", "any", "all", "least", "greatest"):
            self.check(f"{function}(x)", ("x",))

    def test_deep_expressions(self):
        chain = ("name", "a")
        for _ in range(400):
            chain = ("op", "+", ("name", "b"), chain)
        self.assertEqual(names_in(chain), ("b", "a"))


class ExpressionsTest(unittest.TestCase):
    def check(self, line, *texts):
        form = parse_form("section main\n" + line + "\n")
        self.assertEqual(expressions_of(form[0][3][0]), tuple(map(parse_expression, texts)))

    def test_questions(self):
        self.check("question x; truth")
        self.check("question x; truth; required; when a", "a")
        self.check("question x; text 9")
        self.check("question x; text 9; when a", "a")
        self.check("question x; integer")
        self.check("question x; integer; least b", "b")
        self.check("question x; integer; greatest b", "b")
        self.check("question x; integer; least b; greatest c; when a", "a", "b", "c")
        for kind in ("choice", "choices"):
            self.check(f"question x; {kind}; option o")
            self.check(f"question x; {kind}; option o when c; option p; option q when b; when a", "a", "c", "b")

    def test_formulas_and_rules(self):
        self.check("formula x; is b", "b")
        self.check("formula x; is b; when a", "a", "b")
        self.check("rule x; is b; says when c", "b")
        self.check("rule x; is b; blocking; when a; says c", "a", "b")

    def test_same_expression_twice(self):
        self.check("formula x; is a; when a", "a", "a")


if __name__ == "__main__":
    unittest.main()

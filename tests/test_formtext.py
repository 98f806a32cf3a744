"""f1 and f2, with c4 and c5: texts of forms."""

import random
import unittest

from formflow.errors import BadLine
from formflow.formtext import form_text, parse_form
from formflow.writing import expression_text
from shapes import random_expression

EXAMPLE = ("section main\nquestion kids; truth; required\nsection kid; repeats 2; when kids\n"
           "question age; integer; greatest 17\n"
           "rule ok; is age > 3; blocking; when age <> 5; says too young; sorry\n")
SECTION = "section main\n"

# Each line of a field with its shape.
FIELDS = (
    ("question x; truth", ("question", "x", None, ("truth",), False)),
    ("question x; truth; required", ("question", "x", None, ("truth",), True)),
    ("question x; truth; when a", ("question", "x", ("name", "a"), ("truth",), False)),
    ("question x; truth; required; when not a",
     ("question", "x", ("not", ("name", "a")), ("truth",), True)),
    ("question truth; truth", ("question", "truth", None, ("truth",), False)),
    ("question x; integer", ("question", "x", None, ("integer", None, None), False)),
    ("question x; integer; least 0", ("question", "x", None, ("integer", ("number", 0), None), False)),
    ("question x; integer; greatest -5",
     ("question", "x", None, ("integer", None, ("minus", ("number", 5))), False)),
    ("question x; integer; least a; greatest b; required; when c",
     ("question", "x", ("name", "c"), ("integer", ("name", "a"), ("name", "b")), True)),
    ("question x; choice; option o", ("question", "x", None, ("choice", (("o", None),)), False)),
    ("question x; choice; option o; option o", ("question", "x", None, ("choice", (("o", None),) * 2), False)),
    ("question x; choice; option o when a; when b",
     ("question", "x", ("name", "b"), ("choice", (("o", ("name", "a")),)), False)),
    ("question x; choices; option o; option p when a; required",
     ("question", "x", None, ("choices", (("o", None), ("p", ("name", "a")))), True)),
    ("question x; choices; option a; option b; option c; option d; option e",
     ("question", "x", None, ("choices", tuple((name, None) for name in "abcde")), False)),
    ("question x; text 1", ("question", "x", None, ("text", 1), False)),
    ("question x; text 20; required", ("question", "x", None, ("text", 20), True)),
    ("formula x; is 10", ("formula", "x", None, ("number", 10))),
    ("formula x; is a + 1; when b", ("formula", "x", ("name", "b"), ("op", "+", ("name", "a"), ("number", 1)))),
    ("rule x; is a; says no", ("rule", "x", None, ("name", "a"), "no", False)),
    ("rule x; is a; blocking; says no", ("rule", "x", None, ("name", "a"), "no", True)),
    ("rule x; is a; when b; says no", ("rule", "x", ("name", "b"), ("name", "a"), "no", False)),
    ("rule x; is a; blocking; when b; says no; when c",
     ("rule", "x", ("name", "b"), ("name", "a"), "no; when c", True)),
    ("rule x; is a; says ", ("rule", "x", None, ("name", "a"), "", False)),
    ("rule x; is a; says  ", ("rule", "x", None, ("name", "a"), " ", False)),
    ("rule x; is a; says ;", ("rule", "x", None, ("name", "a"), ";", False)),
    ("rule x; is a; says blocking; says says ", ("rule", "x", None, ("name", "a"), "blocking; says says ", False)),
    ("rule x; is a; says  a\\b\"c'd~ ", ("rule", "x", None, ("name", "a"), " a\\b\"c'd~ ", False)),
)
SECTIONS = (
    ("section main", ("main", None, 0)),
    ("section a; when b", ("a", ("name", "b"), 0)),
    ("section a; repeats 1", ("a", None, 1)),
    ("section a; repeats 4", ("a", None, 4)),
    ("section a; repeats 3; when b = c", ("a", ("op", "=", ("name", "b"), ("name", "c")), 3)),
)

# Lines that are none: as sections, and as fields behind a section.
NO_SECTIONS = (
    "", " ", "section", "section ", "section  a", " section a", "section a ", "section a;", "section a; ", "Section a",
    "section if", "section 1", "section abcdefg", "section A", "section a b", "section a\t", "section a\r",
    "section a; repeats 0", "section a; repeats 5", "section a; repeats 01", "section a; repeats 10",
    "section a; repeats -1", "section a; repeats", "section a; repeats ", "section a; repeats x",
    "section a; repeats  2", "section a; repeats 2 ", "section a;repeats 2", "section a ; repeats 2",
    "section a;  repeats 2", "section a; when", "section a; when ", "section a; when 1 +", "section a; when  b",
    "section a; when b ", "section a; when (b)", "section a; when b=c", "section a; when b; repeats 2",
    "section a; repeats 2; repeats 2", "section a; when b; when b", "section a; required", "section a; when b; ",
    "section a; repeats \u0663", "section a; repeats " + "9" * 5000,
    "section\ta", "sections a", "question", "end", ";", "; ", "# section a",
)
NO_FIELDS = (
    "question x", "question ; truth", "question; truth", "question if; truth", "question abcdefg; truth",
    "question x; Truth", "question x; number", "question x; truth ", "question x;truth", "question x ; truth",
    "question x;  truth", "question  x; truth", " question x; truth", "question x; truth;", "question x; truth; ",
    "question x; truth; when a; required", "question x; required; truth", "question x; when a; truth",
    "question x; truth; required; required", "question x; truth; when a; when a", "question x; truth; integer",
    "question x; truth; optional", "question x; truth; required yes", "question x; truth; required ",
    "question x; truth; when", "question x; truth; when ", "question x; truth; when a b",
    "question x; truth; when a  or b", "question x; truth; when (a or b)", "question x; truth; when a or (b or (c))",
    "question x; truth; when not(a)", "question x; truth; when - a", "question x; truth; when has(a,'o')",
    "question x; truth; when sum( a )", "question x; truth; when a=b", "question x; truth; when 01",
    "question x; truth; when 10000", "question x; truth; when a = b = c", "question x; truth; says no",
    "question x; truth; is a",
    "question x; integer; greatest 1; least 0", "question x; integer; least", "question x; integer; least ",
    "question x; integer; least 1; least 2", "question x; integer; greatest 1; greatest 2",
    "question x; integer; least 1 ; greatest 2", "question x; integer; required; least 1", "question x; integer 5",
    "question x; choice", "question x; choices", "question x; choice; required", "question x; choice; option",
    "question x; choice; option ", "question x; choice; option 1", "question x; choice; option if",
    "question x; choice; option o when", "question x; choice; option o when ", "question x; choice; option o  when a",
    "question x; choice; option o when  a", "question x; choice; option o when a when b",
    "question x; choice; option o; required; option p", "question x; choice; options o, p",
    "question x; choice; option 'o'", "question x; choice; option o; option", "question x; truth; option o",
    "question x; choice" + "; option o" * 6, "question x; choices" + "; option o" * 6,
    "question x; choices; option a; option b; option c; option d; option e; option f",
    "question x; text", "question x; text ", "question x; text 0", "question x; text 21", "question x; text 01",
    "question x; text -1", "question x; text 100", "question x; text x", "question x; text  5", "question x; text 5 ",
    "question x; text 5; text 5", "question x; text \u0665", "question x; text " + "1" * 5000,
    "formula x", "formula x; is", "formula x; is ", "formula x; is 1 +", "formula x; when a; is 1",
    "formula x; is 1; is 2",
    "formula x; is 1; required", "formula x; is 1; when a; when b", "formula x; is  1", "formula x; is 1 ",
    "formula x; when a", "formula if; is 1", "formula x; is 1; says a", "formula x; is (1)", "formula x; is ",
    "rule x", "rule x; is a", "rule x; is a; says", "rule x; says a", "rule x; is a; when b; blocking; says c",
    "rule x; is a; says b\t", "rule x; is a; says \u00e9", "rule x; is a; says b\r", "rule x; is a; says \x7f",
    "rule x; is a; says \x1f", "rule x; is a;says b", "rule x; is a;  says b", "rule x; is a; blocking",
    "rule x;says b",
    "rule x; is a; is b; says c", "rule x; is a; required; says c", "rule x; blocking; is a; says c",
    "rule ; is a; says c",
    "rule x; is a; blocking; blocking; says c", "rule x; is a; when b; when c; says d", "rule x; when b; is a; says d",
    "rule  x; is a; says c", "rule x; is a ; says c", "rule x; is (a); says c", "rule x; is a; Says c",
    "rules x; is a; says c",
    "formulas x; is a", "field x; truth", "x", "",
)


class FormTextTest(unittest.TestCase):
    def check_line(self, text, line):
        with self.assertRaises(BadLine, msg=repr(text)) as caught:
            parse_form(text)
        self.assertEqual(caught.exception.line, line, repr(text))

    def test_example(self):
        form = parse_form(EXAMPLE)
        self.assertEqual((form[1][1:3], form[1][3][0], form[1][3][1][5], form_text(form)[:13]),
                         ((("name", "kids"), 2),
                          ("question", "age", None, ("integer", None, ("number", 17)), False), True, "section main\n"))
        self.assertEqual(form[1][3][1][4], "too young; sorry")
        self.assertEqual(form_text(form), EXAMPLE)

    def test_lines_of_fields(self):
        for line, field in FIELDS:
            form = (("main", None, 0, (field,)),)
            self.assertEqual(form_text(form), SECTION + line + "\n")
            found = parse_form(SECTION + line + "\n")
            self.assertEqual(found, form, line)
            self.assertEqual(repr(found), repr(form))

    def test_lines_of_sections(self):
        for line, section in SECTIONS:
            form = (section + ((FIELDS[0][1],),),)
            self.assertEqual(form_text(form), line + "\n" + FIELDS[0][0] + "\n")
            self.assertEqual(parse_form(line + "\n" + FIELDS[0][0] + "\n"), form)

    def test_no_lines_of_sections(self):
        for line in NO_SECTIONS:
            self.check_line(line + "\n" + FIELDS[0][0] + "\n", 1)
            self.check_line(SECTION + FIELDS[0][0] + "\n" + line + "\n" + FIELDS[0][0] + "\n", 3)

    def test_no_lines_of_fields(self):
        for line in NO_FIELDS:
            self.check_line(SECTION + line + "\n", 2)
            self.check_line(SECTION + FIELDS[0][0] + "\n" + line + "\n" + FIELDS[1][0] + "\n", 3)

    def test_field_ahead_of_the_first_section(self):
        for line, _ in FIELDS:
            self.check_line(line + "\n", 1)
            self.check_line(line + "\n" + SECTION, 1)

    def test_sections(self):
        four = "".join(f"section s{number}\n" for number in range(4))
        self.assertEqual(parse_form(four + "question x; truth\n"),
                         (("s0", None, 0, ()), ("s1", None, 0, ()), ("s2", None, 0, ()),
                          ("s3", None, 0, (FIELDS[0][1],))))
        self.check_line(four + "section s4\nquestion x; truth\n", 5)
        self.check_line(four + "question x; truth\nsection s4\n", 6)
        self.check_line(four + "section s4\n", 5)

    def test_fields(self):
        lines = "".join(f"question x{number}; truth\n" for number in range(12))
        self.assertEqual(len(parse_form(SECTION + lines)[0][3]), 12)
        self.check_line(SECTION + lines + "question y; truth\n", 14)
        self.check_line(SECTION + lines + "section b\nrule y; is a; says b\n", 15)
        self.assertEqual(parse_form(SECTION + lines + "section b\n")[1], ("b", None, 0, ()))
        self.assertEqual(len(parse_form(SECTION + "section b\n" + lines)[1][3]), 12)

    def test_end_of_the_text(self):
        self.check_line("section main", 1)
        self.check_line(SECTION + "question x; truth", 2)
        self.check_line(EXAMPLE[:-1], 5)
        self.check_line(EXAMPLE + "section b", 6)
        self.check_line(EXAMPLE + " ", 6)
        self.check_line(EXAMPLE + "\n", 6)
        self.check_line("section main\nno line\nsection b", 2)

    def test_every_beginning(self):
        whole = [at for at in range(len(EXAMPLE)) if EXAMPLE[:at].endswith("\n")]
        for at in range(len(EXAMPLE)):
            text = EXAMPLE[:at]
            if at in whole and text.count("\n") > 1:
                self.assertEqual(form_text(parse_form(text)), text)
            elif at in whole:
                self.check_line(text, 2)
            else:
                self.check_line(text, text.count("\n") + 1)

    def test_texts_without_a_field(self):
        self.check_line("", 1)
        self.check_line(SECTION, 2)
        self.check_line(SECTION + "section b; repeats 2\n", 3)
        self.check_line("".join(f"section s{number}\n" for number in range(4)), 5)
        self.check_line("\n", 1)

    def test_first_line_counts(self):
        self.check_line("section main\nquestion x\nquestion y\n", 2)
        self.check_line("section main\nquestion x; truth\nrule\nsection if\n", 3)

    def test_other_ends_of_lines(self):
        for end in ("\r\n", "\r", "\x0b", "\x0c", "\u2028", "\x85"):
            self.check_line("section main" + end + "question x; truth\n", 1)
            self.check_line(SECTION + "rule x; is a; says b" + end + "question x; truth\n", 2)

    def test_forms_with_issues(self):
        text = ("section a; when 1\nquestion a; truth; when later\nquestion a; integer; least yes\n"
                "formula f; is f\nrule r; is 'o'; says r\n")
        self.assertEqual(form_text(parse_form(text)), text)

    def test_length_of_expressions(self):
        longest = "aa" + " + b" * 37
        self.assertEqual(len(longest), 150)
        self.assertEqual(expression_text(parse_form(f"{SECTION}formula f; is {longest}\n")[0][3][0][3]), longest)
        self.check_line(f"{SECTION}formula f; is {longest} + b\n", 2)
        self.check_line(f"{SECTION}formula f; is a{longest}\n", 2)

    def test_lengths_of_messages(self):
        message = "".join(map(chr, range(32, 127))) * 10
        form = parse_form(f"{SECTION}rule r; is a; says {message}\n")
        self.assertEqual(form[0][3][0][4], message)


class RandomFormsTest(unittest.TestCase):
    def test_read_as_the_same(self):
        pick = random.Random(8)
        for _ in range(600):
            form = random_form(pick)
            text = form_text(form)
            self.assertEqual(parse_form(text), form, text)

    def test_only_the_written_form_is_read(self):
        pick = random.Random(9)
        signs = " ;()='ax1-\n"
        refused = 0
        for _ in range(4000):
            text = form_text(random_form(pick))
            place = pick.randrange(len(text) + 1)
            other = text[:place] + pick.choice(signs) * pick.randrange(2) + text[place + pick.randrange(2):]
            try:
                form = parse_form(other)
            except BadLine as error:
                refused += 1
                # What stands ahead of the line is not at fault, nor what stands behind it.
                self.assertGreaterEqual(error.line, text[:place].count("\n") + 1, other)
                lines = other.split("\n")
                self.assertLessEqual(error.line, len(lines))
            else:
                self.assertEqual(form_text(form), other)
        self.assertGreater(refused, 1000)


def random_form(pick):
    """A form of any expressions, with issues as they come."""
    sections = []
    for number in range(pick.randrange(1, 5)):
        fields = tuple(random_field(pick, f"x{number}{at}") for at in range(pick.randrange(4)))
        sections.append((f"s{number}", maybe(pick), pick.randrange(5), fields))
    if not any(section[3] for section in sections):
        sections[-1] = sections[-1][:3] + ((random_field(pick, "x"),),)
    return tuple(sections)


def maybe(pick):
    return short(pick) if pick.random() < 0.4 else None


def short(pick):
    expression = random_expression(pick, 2)
    return expression if len(expression_text(expression)) <= 150 else ("row",)


def random_field(pick, name):
    what = pick.choice(("question", "question", "formula", "rule"))
    if what == "formula":
        return (what, name, maybe(pick), short(pick))
    if what == "rule":
        message = "".join(pick.choice("ab; ~says") for _ in range(pick.randrange(9)))
        return (what, name, maybe(pick), short(pick), message, pick.random() < 0.5)
    options = tuple((pick.choice("opq"), maybe(pick)) for _ in range(pick.randrange(1, 6)))
    kind = pick.choice((("truth",), ("integer", maybe(pick), maybe(pick)), ("choice", options), ("choices", options),
                        ("text", pick.randrange(1, 21))))
    return (what, name, maybe(pick), kind, pick.random() < 0.5)


if __name__ == "__main__":
    unittest.main()

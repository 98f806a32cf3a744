"""c3, t1, t2 and t3: texts of expressions."""

import unittest

from formflow.errors import BadText
from formflow.reading import parse_expression

A, B, C, D = (("name", name) for name in "abcd")
COMPARISONS = ("=", "<>", "<", "<=", ">", ">=")


def op(sign, left, right):
    return ("op", sign, left, right)


class ReadingTest(unittest.TestCase):
    def check_refused(self, text, token, reason):
        with self.assertRaises(BadText, msg=text) as caught:
            parse_expression(text)
        self.assertEqual((caught.exception.token, caught.exception.reason), (token, reason), text)

    def check_token(self, text, token):
        self.check_refused(text, token, "unexpected token")

    def check_end(self, text, token):
        self.check_refused(text, token, "unexpected end")

    def check_all(self, rows):
        for text, expression in rows:
            self.assertEqual(parse_expression(text), expression, text)


class ShapesTest(ReadingTest):
    def test_examples(self):
        self.check_all((
            ("if a>=2 then sum(b) else -c",
             ("if", op(">=", A, ("number", 2)), ("ask", "sum", "b"), ("minus", C))),
            ("(a+b)*(c??0)=has(x,'o')",
             op("=", op("*", op("+", A, B), op("??", C, ("number", 0))), ("has", "x", "o"))),
        ))
        with self.assertRaises(BadText):
            parse_expression("a = b = c")

    def test_strongest(self):
        self.check_all((
            ("12", ("number", 12)), ("yes", ("truth", True)), ("no", ("truth", False)),
            ("'o'", ("option", "o")), ("a", A), ("row", ("row",)), ("(a)", A), ("((a))", A),
            ("has(a, 'o')", ("has", "a", "o")),
        ))
        self.assertIs(parse_expression("yes")[1], True)
        self.assertIs(parse_expression("no")[1], False)

    def test_functions(self):
        for function in ("answered", "count", "sum", "any", "all", "least", "greatest"):
            self.check_all(((f"{function}(a)", ("ask", function, "a")),
                            (f" {function} ( a ) ", ("ask", function, "a"))))

    def test_all_signs(self):
        for sign in ("or", "and", "+", "-", "*", "??") + COMPARISONS:
            self.check_all(((f"a {sign} b", op(sign, A, B)),))

    def test_forms_with_a_word_or_sign_ahead(self):
        self.check_all((("not a", ("not", A)), ("- a", ("minus", A)), ("-5", ("minus", ("number", 5))),
                        ("if a then b else c", ("if", A, B, C))))

    def test_names_of_functions_are_names_where_no_bracket_follows(self):
        for name in ("count", "sum", "any", "all", "least", "has"):
            self.check_all(((name, ("name", name)), (f"{name}+1", op("+", ("name", name), ("number", 1))),
                            (f"sum({name})", ("ask", "sum", name)), (f"has({name},'{name}')", ("has", name, name))))

    def test_argument_is_left_as_it_was_and_answers_are_equal(self):
        text = "a or not b"
        self.assertEqual(parse_expression(text), parse_expression(text))
        self.assertEqual(text, "a or not b")


class TokensTest(ReadingTest):
    def test_spaces_are_left_out(self):
        for text in ("a+b", " a+b", "a+b ", "a +b", "a+ b", "  a  +  b  "):
            self.check_all(((text, op("+", A, B)),))

    def test_spaces_part_tokens(self):
        self.check_token("a b", 2)
        self.check_token("1 2", 2)
        self.check_token("a < = b", 3)
        self.check_token("a ? ? b", 2)
        self.check_token("no t a", 2)

    def test_other_white_space_fits_nowhere(self):
        for sign in ("\t", "\n", "\r", "\u00a0", "\x0b"):
            self.check_token(f"a{sign}", 2)
            self.check_token(sign, 1)

    def test_as_long_as_can_be(self):
        self.check_all((("nota", ("name", "nota")), ("rows", ("name", "rows")), ("yes1", ("name", "yes1")),
                        ("a<-b", op("<", A, ("minus", B))), ("a--b", op("-", A, ("minus", B))),
                        ("not(a)", ("not", A)), ("if(a)then(b)else(c)", ("if", A, B, C)),
                        ("a<>b", op("<>", A, B)), ("a??b??c", op("??", op("??", A, B), C))))
        self.check_token("a<>=b", 3)
        self.check_token("a<<b", 3)
        self.check_token("a=<b", 3)
        self.check_token("a==b", 3)
        self.check_token("a???b", 3)
        self.check_token("ifa then b else c", 2)

    def test_words(self):
        self.check_all((("abcdef", ("name", "abcdef")), ("a12345", ("name", "a12345"))))
        self.check_token("abcdefg", 1)
        self.check_token("a + abcdefg", 3)
        self.check_token("a123456", 1)
        self.check_token("abcdefg(a)", 1)
        self.check_token("answere(a)", 1)
        self.check_token("answeredd(a)", 1)
        self.check_token("greatest1(a)", 1)
        self.check_token("smallest(a)", 1)
        self.check_token("a answered(b)", 2)
        self.check_token("sum(answered(a))", 3)
        self.check_token("A", 1)
        self.check_token("aB", 2)
        self.check_token("a_b", 2)

    def test_numbers(self):
        self.check_all((("0", ("number", 0)), ("9999", ("number", 9999)), ("1000", ("number", 1000)),
                        ("-0", ("minus", ("number", 0))), ("-9999", ("minus", ("number", 9999)))))
        for text in ("10000", "99999", "00", "01", "007", "00000", "1" * 150):
            self.check_token(text, 1)
        self.check_token("a + 10000", 3)
        self.check_token("-00", 2)
        self.check_token("1a", 2)
        self.check_token("12ab", 2)
        self.check_token("1.5", 2)
        self.check_token("\u0663", 1)
        self.check_token("\u00b2", 1)

    def test_options(self):
        self.check_all((("'abcdef'", ("option", "abcdef")), ("'sum'", ("option", "sum")),
                        ("'a'='b'", op("=", ("option", "a"), ("option", "b")))))
        for text in ("'", "''", "'''", "'a", "'a b'", "' a'", "'a '", "'abcdefg'", "'if'", "'row'", "'1'", "'A'",
                     "'a\"", "'ab", "'answered'"):
            self.check_token(text, 1)
        self.check_token("a'", 2)
        self.check_token("a = 'yes'", 3)
        self.check_token("'a''b'", 2)
        self.check_token("'a'b'", 2)

    def test_signs_that_fit_nowhere(self):
        for sign in "?!&|/\\\"#;:.[]{}_@~^\u00e9\u20ac":
            self.check_token(sign, 1)
            self.check_token(f"a {sign} b", 2)
            self.check_token(f"a + {sign}", 3)


class LevelsTest(ReadingTest):
    def test_left_ones_go_first(self):
        for sign in ("or", "and", "+", "-", "*", "??"):
            self.check_all(((f"a {sign} b {sign} c", op(sign, op(sign, A, B), C)),
                            (f"a {sign} (b {sign} c)", op(sign, A, op(sign, B, C)))))
        self.check_all((("a - b + c", op("+", op("-", A, B), C)), ("a + b - c", op("-", op("+", A, B), C))))

    def test_stronger_ones_go_first(self):
        for weak, strong in (("or", "and"), ("and", "="), ("=", "+"), ("<", "-"), ("+", "*"), ("-", "*"), ("*", "??")):
            self.check_all(((f"a {weak} b {strong} c", op(weak, A, op(strong, B, C))),
                            (f"a {strong} b {weak} c", op(weak, op(strong, A, B), C)),
                            (f"(a {weak} b) {strong} c", op(strong, op(weak, A, B), C)),
                            (f"a {strong} (b {weak} c)", op(strong, A, op(weak, B, C)))))

    def test_comparisons_make_no_chain(self):
        for sign in COMPARISONS:
            for other in COMPARISONS:
                self.check_token(f"a {sign} b {other} c", 4)
                self.check_token(f"not a {sign} b {other} c", 5)
                self.check_all(((f"(a {sign} b) {other} c", op(other, op(sign, A, B), C)),
                                (f"a {sign} (b {other} c)", op(sign, A, op(other, B, C)))))
        self.check_token("(a = b = c)", 5)
        self.check_token("if a = b = c then a else b", 5)
        self.check_all((("a = b and c = d", op("and", op("=", A, B), op("=", C, D))),))

    def test_not(self):
        self.check_all((("not not a", ("not", ("not", A))), ("not a = b", ("not", op("=", A, B))),
                        ("not a and b", op("and", ("not", A), B)), ("a and not b", op("and", A, ("not", B))),
                        ("a or not b", op("or", A, ("not", B))), ("not a or b", op("or", ("not", A), B)),
                        ("not - a + b", ("not", op("+", ("minus", A), B))), ("(not a) = b", op("=", ("not", A), B)),
                        ("if not a then not b else not c", ("if", ("not", A), ("not", B), ("not", C)))))
        for sign in COMPARISONS + ("+", "-", "*", "??"):
            self.check_token(f"a {sign} not b", 3)
        self.check_token("- not a", 2)

    def test_minus(self):
        self.check_all((("- - a", ("minus", ("minus", A))), ("--a", ("minus", ("minus", A))),
                        ("- a + b", op("+", ("minus", A), B)), ("- a * b", op("*", ("minus", A), B)),
                        ("- a ?? b", op("??", ("minus", A), B)), ("a ?? - b", op("??", A, ("minus", B))),
                        ("a * - b", op("*", A, ("minus", B))), ("a - - b", op("-", A, ("minus", B))),
                        ("a = - b", op("=", A, ("minus", B))), ("-(a + b)", ("minus", op("+", A, B)))))

    def test_if(self):
        self.check_all((
            ("if a then b else c or d", ("if", A, B, op("or", C, D))),
            ("if a then b else if b then c else d", ("if", A, B, ("if", B, C, D))),
            ("if if a then b else c then b else c", ("if", ("if", A, B, C), B, C)),
            ("if a then if b then c else d else d", ("if", A, ("if", B, C, D), D)),
            ("(if a then b else c) + d", op("+", ("if", A, B, C), D)),
            ("a or (if a then b else c)", op("or", A, ("if", A, B, C))),
            ("if a or b then a and b else a = b", ("if", op("or", A, B), op("and", A, B), op("=", A, B))),
        ))
        for sign in ("or", "and", "+", "-", "*", "??") + COMPARISONS:
            self.check_token(f"a {sign} if a then b else c", 3)
        self.check_token("not if a then b else c", 2)
        self.check_token("- if a then b else c", 2)


class RefusedTest(ReadingTest):
    def test_unexpected_token(self):
        for text, token in (
                (")", 1), ("*a", 1), ("= a", 1), (",", 1), ("then", 1), ("else", 1), ("or a", 1), ("a)", 2),
                ("()", 2), ("(a b)", 3), ("(a,b)", 3), ("a or or b", 3), ("a not b", 2), ("a and or b", 3),
                ("if a b", 3), ("if a else b", 3), ("if a then b then c", 5), ("if then", 2),
                ("a (b)", 2), ("foo(a)", 2), ("yes(a)", 2), ("1(a)", 2), ("'a'(b)", 2), ("row(a)", 2),
                ("sum()", 3), ("sum(yes)", 3), ("sum(row)", 3), ("sum(1)", 3), ("sum('a')", 3), ("sum((a))", 3),
                ("sum(a+b)", 4), ("sum(a, b)", 4), ("sum(count(a))", 4), ("answered(1)", 3), ("greatest(-a)", 3),
                ("has(a)", 4), ("has(a 'o')", 4), ("has(a, o)", 5), ("has(a, 'o', 'p')", 6), ("has('o', a)", 3),
                ("has()", 3), ("has(a, '')", 5), ("has(a, 'o'", None), ("a + + b", 3), ("+ a", 1)):
            if token is None:
                self.check_end(text, 6)
            else:
                self.check_token(text, token)

    def test_unexpected_end(self):
        for text, token in (
                ("", 1), (" ", 1), (" " * 150, 1), ("a +", 3), ("a ??", 3), ("not", 2), ("-", 2), ("(", 2), ("(a", 3),
                ("if", 2), ("if a", 3), ("if a then", 4), ("if a then b", 5), ("if a then b else", 6),
                ("sum(", 3), ("sum(a", 4), ("answered(", 3), ("greatest(a", 4), ("has(", 3), ("has(a", 4),
                ("has(a,", 5), ("has(a,'o'", 6), ("a = b and", 5), ("(a = b", 5)):
            self.check_end(text, token)

    def test_first_token_counts(self):
        self.check_token("a b c )", 2)
        self.check_token("? (", 1)
        self.check_token("a + ) ?", 3)
        self.check_token("a = b = ?", 4)

    def test_text_of_150_characters(self):
        text = "a" + " " * 148 + "b"
        self.check_token(text, 2)
        self.assertEqual(parse_expression("a" + " " * 149), A)
        self.assertEqual(parse_expression("a+" + " " * 147 + "b"), op("+", A, B))

    def test_text_too_long(self):
        for text in ("a" + " " * 150, " " * 151, "?" * 151, "a b" + " " * 148, "a" * 1000):
            self.check_refused(text, 0, "text too long")

    def test_deep_texts(self):
        deep = A
        for _ in range(149):
            deep = ("minus", deep)
        self.assertEqual(parse_expression("-" * 149 + "a"), deep)
        self.assertEqual(parse_expression("(" * 74 + "a" + ")" * 74), A)
        self.check_end("(" * 150, 151)
        self.check_end("-" * 150, 151)
        self.check_end("if(" * 50, 101)
        self.check_end("not " * 37, 38)


if __name__ == "__main__":
    unittest.main()

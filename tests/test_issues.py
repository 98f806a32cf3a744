"""i1, i2 and i3: kinds, scopes and the issues of forms."""

import random
import unittest

import model
import right
from formflow.formtext import parse_form
from formflow.issues import issues, kind_in
from formflow.reading import parse_expression
from shapes import random_expression

# A form with something of every kind, in a section that does not repeat, in two that do, and one more.
FORM = """section main
question t; truth
question n; integer
question c; choice; option o
question cs; choices; option o
question tx; text 5
formula ft; is t
formula fn; is n + 1
formula fc; is c
formula bad; is t + n
rule r; is t; says r
section one; repeats 2
question t1; truth
question n1; integer
question c1; choice; option o
question cs1; choices; option o
question tx1; text 5
formula ft1; is t1
section two; repeats 3
question t2; truth
section end
question last; truth
"""
KINDS = {"t": "truth", "n": "number", "c": "option", "ft": "truth", "fn": "number", "fc": "option"}


class KindsTest(unittest.TestCase):
    def setUp(self):
        # The limit of 12 fields is one of texts of forms; a bigger form can be looked at all the same.
        heads = []
        for block in FORM.split("section ")[1:]:
            head, _, rest = block.partition("\n")
            lines = rest.splitlines(keepends=True)
            fields = [parse_form("section x\n" + line)[0][3][0] for line in lines]
            heads.append(parse_form("section " + head + "\nquestion x; truth\n")[0][:3] + (tuple(fields),))
        self.form = tuple(heads)

    def check(self, place, text, kind):
        self.assertEqual(kind_in(self.form, *place, parse_expression(text)), kind, (place, text))

    def check_everywhere(self, text, kind):
        for place in (("main", None), ("main", "t"), ("one", None), ("one", "n1"), ("end", "last"), (None, None)):
            self.check(place, text, kind)

    def test_literals(self):
        for text, kind in (("1", "number"), ("yes", "truth"), ("no", "truth"), ("'o'", "option"), ("'zz'", "option")):
            self.check_everywhere(text, kind)

    def test_names(self):
        for place in (("main", "r"), ("one", None), ("one", "t1"), ("two", "t2"), ("end", "last"), (None, None)):
            for name, kind in KINDS.items():
                self.check(place, name, kind)
            for name in ("cs", "tx", "bad", "r", "main", "one", "end", "zz"):
                self.check(place, name, None)

    def test_signs(self):
        end = ("end", "last")
        worths = {"truth": "t", "number": "n", "option": "c", None: "tx"}
        for sign, wanted, made in (
                ("and", ["truth"], "truth"), ("or", ["truth"], "truth"), ("=", [*KINDS.values()], "truth"),
                ("<>", [*KINDS.values()], "truth"), ("<", ["number"], "truth"), ("<=", ["number"], "truth"),
                (">", ["number"], "truth"), (">=", ["number"], "truth"), ("+", ["number"], "number"),
                ("-", ["number"], "number"), ("*", ["number"], "number"), ("??", [*KINDS.values()], "same")):
            for one, left in worths.items():
                for other, right_side in worths.items():
                    fits = one == other and one in wanted
                    kind = (one if made == "same" else made) if fits else None
                    self.check(end, f"{left} {sign} {right_side}", kind)
        for kind, name in worths.items():
            self.check(end, f"not {name}", "truth" if kind == "truth" else None)
            self.check(end, f"-{name}", "number" if kind == "number" else None)
            for other, second in worths.items():
                fits = kind is not None and kind == other
                self.check(end, f"if t then {name} else {second}", kind if fits else None)
                self.check(end, f"if {name} then 1 else 2", "number" if kind == "truth" else None)
        self.check(end, "if cs then 1 else 2", None)
        self.check(end, "cs = cs", None)
        self.check(end, "cs ?? cs", None)
        self.check(end, "(t + 1) = 1", None)
        self.check(end, "not (n = c)", None)

    def test_answered(self):
        for name in ("t", "n", "c", "cs", "tx", "ft", "fn", "fc"):
            self.check(("end", "last"), f"answered({name})", "truth")
        for name in ("bad", "r", "main", "one", "n1", "last", "zz"):
            self.check(("end", "last"), f"answered({name})", None)
        self.check(("one", "c1"), "answered(n1)", "truth")
        self.check(("one", "n1"), "answered(n1)", None)

    def test_has(self):
        self.check(("end", "last"), "has(cs, 'o')", "truth")
        self.check(("end", "last"), "has(cs, 'zz')", "truth")
        for name in ("t", "n", "c", "tx", "ft", "bad", "r", "one", "cs1", "zz"):
            self.check(("end", "last"), f"has({name}, 'o')", None)
        self.check(("one", "tx1"), "has(cs1, 'o')", "truth")
        self.check(("one", "cs1"), "has(cs1, 'o')", None)

    def test_count(self):
        for name, kind in (("one", "number"), ("two", "number"), ("main", None), ("end", None), ("n1", None),
                           ("zz", None)):
            self.check(("end", "last"), f"count({name})", kind)
            self.check((None, None), f"count({name})", kind)
        self.check(("two", None), "count(one)", "number")
        self.check(("two", "t2"), "count(one)", "number")
        # Neither from within, nor from ahead.
        for place in (("one", None), ("one", "n1"), ("one", "ft1"), ("main", "r"), ("main", None)):
            self.check(place, "count(one)", None)
            self.check(place, "count(two)", None)

    def test_over_rows(self):
        for place in (("two", None), ("two", "t2"), ("end", None), ("end", "last"), (None, None)):
            for function in ("sum", "least", "greatest"):
                for name, kind in (("n1", "number"), ("t1", None), ("c1", None), ("cs1", None), ("tx1", None),
                                   ("ft1", None), ("n", None), ("fn", None), ("one", None), ("zz", None)):
                    self.check(place, f"{function}({name})", kind)
            for function in ("any", "all"):
                for name, kind in (("t1", "truth"), ("ft1", "truth"), ("n1", None), ("c1", None), ("t", None),
                                   ("one", None), ("cs1", None)):
                    self.check(place, f"{function}({name})", kind)
        for place in (("one", None), ("one", "ft1"), ("one", "n1"), ("main", "r")):
            self.check(place, "sum(n1)", None)
            self.check(place, "any(t1)", None)
        self.check(("end", "last"), "any(t2)", "truth")
        self.check(("two", "t2"), "any(t2)", None)

    def test_row(self):
        for place, kind in ((("one", "t1"), "number"), (("two", "t2"), "number"), (("one", None), None),
                            (("two", None), None), (("main", "r"), None), (("end", "last"), None),
                            ((None, None), None)):
            self.check(place, "row", kind)
            self.check(place, "row + 1", kind)

    def test_own_rows_by_name(self):
        self.check(("one", "ft1"), "t1", "truth")
        self.check(("one", "n1"), "t1", "truth")
        for place in (("one", "t1"), ("one", None), ("two", None), ("two", "t2"), ("end", "last"), (None, None)):
            self.check(place, "t1", None)

    def test_nothing_later(self):
        self.check(("main", "n"), "t", "truth")
        self.check(("main", "t"), "t", None)
        self.check(("main", "t"), "n", None)
        self.check(("main", None), "t", None)
        self.check(("end", None), "last", None)
        self.check((None, None), "last", "truth")

    def test_deep_expressions(self):
        chain = ("number", 1)
        for _ in range(400):
            chain = ("op", "+", ("number", 1), chain)
        self.assertEqual(kind_in(self.form, "main", "t", chain), "number")


class NamesThatOccurAgainTest(unittest.TestCase):
    """i2: the first one that may be read in this way counts."""

    def check(self, lines, text, kind, place=("end", "z")):
        form = parse_form("\n".join(lines) + "\nsection end\nquestion z; truth\n")
        self.assertEqual(kind_in(form, *place, parse_expression(text)), kind, lines)

    def test_first_one(self):
        self.check(["section a", "question x; truth", "question x; integer"], "x", "truth")
        self.check(["section a", "question x; integer", "section b", "question x; truth"], "x", "number")
        self.check(["section a", "question x; text 3", "question x; truth"], "x", None)
        self.check(["section a", "question x; truth", "question x; choices; option o"], "has(x, 'o')", None)

    def test_what_cannot_be_read_is_passed_over(self):
        self.check(["section a", "rule x; is yes; says x", "question x; integer"], "x", "number")
        self.check(["section a", "formula x; is 1 = yes", "question x; integer"], "x", "number")
        self.check(["section x", "question x; integer"], "x", "number")
        self.check(["section a; repeats 2", "question x; truth", "section b", "question x; integer"], "x", "number")
        self.check(["section a", "question x; truth", "section b; repeats 2", "question x; integer"], "sum(x)", "number")
        self.check(["section a; repeats 2", "rule x; is yes; says x", "question x; integer"], "sum(x)", "number")
        self.check(["section a; repeats 2", "question x; truth", "question x; integer"], "sum(x)", None)
        self.check(["section a; repeats 2", "question x; truth", "section b; repeats 2", "question x; integer"],
                   "any(x)", "truth")
        self.check(["section x", "question a; truth", "section x; repeats 2", "question b; truth"], "count(x)", "number")

    def test_own_section_and_those_ahead(self):
        lines = ["section a", "question x; truth", "section b; repeats 2", "question x; integer", "question y; truth"]
        self.check(lines, "x", "truth", ("b", "y"))
        self.check(lines, "sum(x)", None, ("b", "y"))
        self.check(lines, "sum(x)", "number")
        self.check(lines, "x", "truth")
        lines = ["section a; repeats 1", "question x; truth", "section b; repeats 2", "question x; integer", "rule y; is yes; says y"]
        self.check(lines, "x", "number", ("b", "y"))
        self.check(lines, "any(x)", "truth", ("b", "y"))
        self.check(lines, "any(x)", "truth")

    def test_first_place_of_these_names(self):
        lines = ["section a", "question x; truth", "question y; truth", "question x; truth"]
        self.check(lines, "y", None, ("a", "x"))
        lines = ["section a", "question x; truth", "section a; repeats 2", "question y; truth"]
        self.check(lines, "row", "number", ("a", "y"))
        self.check(lines, "x", None, ("a", None))


class IssuesTest(unittest.TestCase):
    def check(self, text, *wanted):
        form = parse_form(text)
        found = issues(form)
        self.assertEqual(found, list(wanted), text)
        found.append("more")
        self.assertEqual(issues(form), list(wanted))

    def check_field(self, line, *wanted):
        """A field behind one of each kind."""
        ahead = ("section main\nquestion t; truth\nquestion n; integer\nquestion c; choice; option o\n"
                 "question cs; choices; option o\nquestion tx; text 5\n")
        self.check(ahead + line + "\n", *wanted)

    def test_right_form(self):
        self.check("section main\nquestion kids; truth; required\nsection kid; repeats 2; when kids\n"
                   "question age; integer; greatest 17; required\nformula fee; is age * 10; when age >= 7\n"
                   "section end\nformula total; is sum(fee)\nrule cap; is total <= 100; blocking; says too much\n")

    def test_twice(self):
        self.check("section a\nquestion a; truth\n", ("a", "twice"))
        self.check("section a\nquestion b; truth\nsection b\n", ("b", "twice"))
        self.check("section a\nquestion b; truth\nsection a\n", ("a", "twice"))
        self.check("section a\nquestion b; truth\nrule b; is yes; says b\n", ("b", "twice"))
        self.check("section a\nquestion a; truth\nsection b\nformula a; is 1\nquestion b; truth\n",
                   ("a", "twice"), ("a", "twice"), ("b", "twice"))
        self.check("section a\nquestion x; truth\nquestion y; truth\nquestion y; truth\nquestion x; truth\n"
                   "question x; truth\n", ("x", "twice"), ("y", "twice"), ("x", "twice"))
        self.check("section a\nquestion x; choice; option a; option x\n")

    def test_conditions(self):
        for text in ("t", "n > 1", "yes", "has(cs, 'o')", "answered(tx)"):
            self.check_field(f"question x; truth; when {text}")
            self.check_field(f"section b; when {text}")
        for text in ("n", "c", "cs", "tx", "1", "'o'", "zz", "t = n", "row = 1", "row", "x", "main", "b"):
            self.check_field(f"question x; truth; when {text}", ("x", "condition"))
            self.check_field(f"formula x; is t; when {text}", ("x", "condition"))
            self.check_field(f"rule x; is t; when {text}; says x", ("x", "condition"))
            self.check_field(f"section b; when {text}", ("b", "condition"))
            self.check_field(f"section b; repeats 2; when {text}", ("b", "condition"))

    def test_bounds(self):
        self.check_field("question x; integer; least n; greatest n + 1")
        for text in ("t", "c", "cs", "tx", "yes", "'o'", "zz", "x", "row"):
            self.check_field(f"question x; integer; least {text}", ("x", "bound"))
            self.check_field(f"question x; integer; greatest {text}", ("x", "bound"))
            self.check_field(f"question x; integer; least {text}; greatest 1", ("x", "bound"))
            self.check_field(f"question x; integer; least {text}; greatest {text}; when n",
                             ("x", "condition"), ("x", "bound"), ("x", "bound"))

    def test_options(self):
        for kind in ("choice", "choices"):
            self.check_field(f"question x; {kind}; option o when t; option p; option q when n > 1")
            self.check_field(f"question x; {kind}; option o; option o", ("x", "options"))
            self.check_field(f"question x; {kind}; option o; option p; option o; option o; option p", ("x", "options"))
            for text in ("n", "c", "cs", "tx", "1", "'o'", "zz", "x"):
                self.check_field(f"question x; {kind}; option o when {text}", ("x", "options"))
                self.check_field(f"question x; {kind}; option o when {text}; option p; option q when {text}",
                                 ("x", "options"), ("x", "options"))
                self.check_field(f"question x; {kind}; option o when {text}; option o; when n",
                                 ("x", "condition"), ("x", "options"), ("x", "options"))

    def test_formulas(self):
        for text in ("t", "n", "c", "1", "'o'", "yes", "has(cs, 'o')"):
            self.check_field(f"formula x; is {text}")
        for text in ("cs", "tx", "zz", "x", "row", "t + 1", "main", "count(main)", "sum(n)"):
            self.check_field(f"formula x; is {text}", ("x", "formula"))
        self.check_field("formula x; is cs; when n", ("x", "condition"), ("x", "formula"))

    def test_rules(self):
        for text in ("t", "n = 1", "yes"):
            self.check_field(f"rule x; is {text}; says x")
        for text in ("n", "c", "cs", "tx", "1", "'o'", "zz", "x", "row"):
            self.check_field(f"rule x; is {text}; says x", ("x", "rule"))
        self.check_field("rule x; is n; blocking; when c; says x", ("x", "condition"), ("x", "rule"))

    def test_out_of_scope(self):
        main = "section main\nquestion t; truth\n"
        rows = "section kid; repeats 2\nquestion b; truth\nquestion n; integer\n"
        # A later field, the field itself, a rule, a formula without a kind.
        self.check(main + "formula f; is g\nformula g; is t\n", ("f", "formula"))
        self.check(main + "formula f; is f\n", ("f", "formula"))
        self.check(main + "rule r; is t; says r\nformula f; is r\n", ("f", "formula"))
        self.check(main + "formula g; is t + 1\nformula f; is g\n", ("g", "formula"), ("f", "formula"))
        self.check(main + "formula g; is t + 1\nrule r; is answered(g); says r\n", ("g", "formula"), ("r", "rule"))
        # A field of another section that repeats, by name, and fields of the own one over rows.
        self.check(main + rows + "section end\nformula f; is n\n", ("f", "formula"))
        self.check(main + rows + "section more; repeats 2\nformula f; is n\n", ("f", "formula"))
        self.check(main + rows + "section end\nformula f; is answered(b)\n", ("f", "formula"))
        self.check(main + rows + "formula f; is sum(n)\n", ("f", "formula"))
        self.check(main + rows + "formula f; is n\n")
        self.check(main + rows + "section end\nformula f; is sum(n)\n")
        # The row outside of rows.
        self.check(main + "section kid; repeats 2; when row = 1\nquestion b; truth\n", ("kid", "condition"))
        self.check(main + rows + "formula f; is row\n")
        self.check(main + rows + "section end\nformula f; is row\n", ("f", "formula"))
        # The count of a section that does not repeat, that stands later, or that is the own one.
        self.check(main + "section end\nformula f; is count(main)\n", ("f", "formula"))
        self.check(main + "formula f; is count(kid)\n" + rows, ("f", "formula"))
        self.check(main + rows + "formula f; is count(kid)\n", ("f", "formula"))
        self.check(main + rows + "section end; when count(kid) > 1\nformula f; is count(kid)\n")
        # A section's own fields in its condition.
        self.check("section main; when t\nquestion t; truth\n", ("main", "condition"))

    def test_order(self):
        self.check(
            "section a; when 1\nquestion a; integer; least yes; greatest no; when 2\n"
            "rule r; is 1; when 3; says r\nsection b; when 4\nformula f; is tx\nquestion b; choice; option o when 1; option o\n",
            ("a", "twice"), ("b", "twice"), ("a", "condition"), ("a", "condition"), ("a", "bound"), ("a", "bound"),
            ("r", "condition"), ("r", "rule"), ("b", "condition"), ("f", "formula"), ("b", "options"), ("b", "options"))


class RandomTest(unittest.TestCase):
    def test_right_forms(self):
        pick = random.Random(10)
        for _ in range(400):
            form = right.form(pick)
            self.assertEqual(issues(form), [], form)

    def test_beside_the_model(self):
        pick = random.Random(11)
        found = set()
        for _ in range(1500):
            form = disturbed(pick, right.form(pick))
            self.assertEqual(issues(form), model.issues(form), form)
            found |= {issue for _, issue in issues(form)}
        self.assertEqual(found, {"twice", "condition", "bound", "options", "formula", "rule"})

    def test_kinds_beside_the_model(self):
        pick = random.Random(12)
        found = {}
        for _ in range(300):
            form = right.form(pick)
            places = [(at, None) for at in range(len(form) + 1)]
            places += [(at, number) for at, section in enumerate(form) for number in range(len(section[3]))]
            names = [field[1] for section in form for field in section[3]] + [section[0] for section in form]
            for at, number in places:
                section = form[at][0] if at < len(form) else None
                field = None if number is None else form[at][3][number][1]
                for _ in range(6):
                    shape = random_expression(pick, pick.randrange(3), names)
                    kind = kind_in(form, section, field, shape)
                    self.assertEqual(kind, model.kind(form, (at, number), shape), (form, section, field, shape))
                    found[kind] = found.get(kind, 0) + 1
        self.assertEqual(set(found), {None, "truth", "number", "option"})
        self.assertGreater(min(found.values()), 300)


def disturbed(pick, form):
    """A form some of whose parts have been exchanged for others."""
    names = [section[0] for section in form] + [field[1] for section in form for field in section[3]]

    def change(thing, chance):
        if isinstance(thing, tuple) and thing and thing[0] in ("name", "ask", "has") and pick.random() < chance:
            at = {"name": 1, "ask": 2, "has": 1}[thing[0]]
            return thing[:at] + (pick.choice(names),) + thing[at + 1:]
        if isinstance(thing, tuple) and thing and thing[0] in ("number", "truth") and pick.random() < chance / 2:
            others = (("number", 1), ("truth", True), ("row",), ("option", "o"))
            return pick.choice(others) if len(thing) == 2 else thing
        if isinstance(thing, tuple):
            return tuple(change(part, chance) for part in thing)
        if thing in names and pick.random() < chance / 4:
            return pick.choice(names)
        if thing in tuple("opqrs") and pick.random() < chance:
            return pick.choice("op")
        return thing
    return change(form, 0.3)


if __name__ == "__main__":
    unittest.main()

"""t2 and t3: parse_expression beside the rules of the table, token by token."""

import random
import unittest

from formflow.errors import BadText
from formflow.reading import parse_expression
from grammar import Earley, random_text

FEW = ("a", "sum", "has", "'o'", "not", "-", "=", "+", "??", "or", "(", ")", ",", "if", "then", "else")
ODD = ("?", "'", "''", "!", "A", "10000", "01", "abcdefg", "'row'", "'abcdefg'", ".", ";", "_")
MANY = FEW + ("1", "yes", "row", "and", "<>", "<", "<=", ">", ">=", "*", "count", "any")


def refusal(tokens):
    """(token, reason) of a refused text, or None."""
    try:
        parse_expression(" ".join(tokens))
    except BadText as error:
        return error.token, error.reason
    return None


class GrammarTest(unittest.TestCase):
    def check_step(self, known, tokens):
        """Compares for tokens of which all but the last are known to be a beginning."""
        count = len(tokens)
        if not known.take(tokens[-1]):
            self.assertEqual(refusal(tokens), (count, "unexpected token"), tokens)
            return False
        wanted = None if known.is_whole() else (count + 1, "unexpected end")
        self.assertEqual(refusal(tokens), wanted, tokens)
        return True

    def walk(self, known, tokens, most):
        for token in FEW:
            longer = tokens + [token]
            if self.check_step(known, longer):
                if len(longer) < most:
                    self.walk(known, longer, most)
                known.take_back()

    def test_all_short_rows_of_tokens(self):
        self.walk(Earley(), [], 4)

    def test_long_rows_of_tokens(self):
        pick = random.Random(1)
        for _ in range(400):
            known, tokens, tries = Earley(), [], 0
            while len(tokens) < 24 and tries < 60:
                tries += 1
                token = pick.choice(MANY)
                if self.check_step(known, tokens + [token]):
                    tokens.append(token)

    def test_tokens_that_fit_nowhere(self):
        pick = random.Random(6)
        for _ in range(1500):
            tokens, _ = random_text(pick, 0, 3)
            place = pick.randrange(len(tokens) + 1)
            # What is told of these two without a bracket behind them is left open by the document.
            if tokens[place - 1:place] in (["answered"], ["greatest"]):
                continue
            row = tokens[:place] + [pick.choice(ODD)] + tokens[place:]
            if len(" ".join(row)) <= 150:
                self.assertEqual(refusal(row), (place + 1, "unexpected token"), row)

    def test_shapes(self):
        pick = random.Random(2)
        found = 0
        while found < 2000:
            tokens, shape = random_text(pick, 0, 4)
            text = " ".join(tokens)
            if len(text) <= 150:
                found += 1
                self.assertEqual(parse_expression(text), shape, text)

    def test_spaces_between_tokens_do_not_count(self):
        pick = random.Random(3)
        for _ in range(500):
            tokens, shape = random_text(pick, 0, 3)
            text = "".join(_spaced(pick, tokens))
            if len(text) <= 150:
                self.assertEqual(parse_expression(text), shape, text)


def _spaced(pick, tokens):
    """The tokens with spaces where they are needed, and at times where not."""
    last = ""
    for token in tokens:
        needed = last[-1:].isalnum() and token[0].isalnum()
        # Two signs or two quotes could be read as one longer token.
        needed = needed or (last != "" and not last[-1].isalnum() and not token[0].isalnum())
        yield " " * (needed + pick.choice((0, 0, 0, 1, 2))) + token
        last = token


if __name__ == "__main__":
    unittest.main()

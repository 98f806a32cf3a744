"""Reads texts of expressions (t1, t2, t3)."""

from formflow.errors import BadText
from formflow.levels import IF_LEVEL, MINUS_LEVEL, NOT_LEVEL, SIGNS, STRONGEST
from formflow.tokens import is_number_token, is_option_token, tokens_of
from formflow.values import is_name

LONGEST_TEXT = 150
LITERALS = {"yes": ("truth", True), "no": ("truth", False), "row": ("row",)}
FUNCTIONS = ("answered", "count", "sum", "any", "all", "least", "greatest")


class Reader:
    """The tokens of a text, and how many of them have been read."""

    def __init__(self, tokens):
        self.tokens = tokens
        self.at = 0

    def ahead(self, steps=0):
        """The next token, or one some steps behind it; "" behind the last."""
        place = self.at + steps
        return self.tokens[place] if place < len(self.tokens) else ""

    def step(self):
        """Goes over the next token and tells it."""
        token = self.ahead()
        self.at += 1
        return token

    def demand(self, fits):
        """Refuses the next token if it does not fit."""
        if not fits:
            reason = "unexpected token" if self.ahead() else "unexpected end"
            raise BadText(self.at + 1, reason)


def parse_expression(text):
    """The expression that a text is; raises BadText."""
    if len(text) > LONGEST_TEXT:
        raise BadText(0, "text too long")
    reader = Reader(tokens_of(text))
    expression = _read_level(reader, IF_LEVEL)
    reader.demand(reader.ahead() == "")
    return expression


def _read_level(reader, weakest):
    """Reads an expression of a level, or of a stronger one, as far as it goes."""
    expression, level = _read_beginning(reader, weakest)
    while _goes_on(reader.ahead(), weakest, level):
        sign = reader.step()
        level, _, on_right = SIGNS[sign]
        expression = ("op", sign, expression, _read_level(reader, on_right))
    return expression


def _goes_on(sign, weakest, level):
    """Whether a sign may follow an operand of a level where weakest is asked for."""
    if sign not in SIGNS:
        return False
    whole, on_left, _ = SIGNS[sign]
    return whole >= weakest and level >= on_left


def _read_beginning(reader, weakest):
    """Reads what stands ahead of the first sign between operands, and tells its level."""
    token = reader.ahead()
    if token == "if":
        reader.demand(weakest <= IF_LEVEL)
        return _read_if(reader), IF_LEVEL
    if token == "not":
        reader.demand(weakest <= NOT_LEVEL)
        reader.step()
        return ("not", _read_level(reader, NOT_LEVEL)), NOT_LEVEL
    if token == "-":
        reader.step()
        return ("minus", _read_level(reader, MINUS_LEVEL)), MINUS_LEVEL
    if token == "(":
        reader.step()
        inner = _read_level(reader, IF_LEVEL)
        _read_sign(reader, ")")
        return inner, STRONGEST
    return _read_strongest(reader), STRONGEST


def _read_if(reader):
    _read_sign(reader, "if")
    test = _read_level(reader, IF_LEVEL)
    _read_sign(reader, "then")
    then = _read_level(reader, IF_LEVEL)
    _read_sign(reader, "else")
    return ("if", test, then, _read_level(reader, IF_LEVEL))


def _read_strongest(reader):
    token = reader.ahead()
    if reader.ahead(1) == "(" and token in FUNCTIONS:
        return _read_ask(reader)
    if reader.ahead(1) == "(" and token == "has":
        return _read_has(reader)
    if token in LITERALS:
        return LITERALS[reader.step()]
    if is_number_token(token):
        return ("number", int(reader.step()))
    if is_option_token(token):
        return ("option", _read_option(reader))
    return ("name", _read_name(reader))


def _read_ask(reader):
    function = reader.step()
    _read_sign(reader, "(")
    name = _read_name(reader)
    _read_sign(reader, ")")
    return ("ask", function, name)


def _read_has(reader):
    _read_sign(reader, "has")
    _read_sign(reader, "(")
    name = _read_name(reader)
    _read_sign(reader, ",")
    option = _read_option(reader)
    _read_sign(reader, ")")
    return ("has", name, option)


def _read_sign(reader, sign):
    reader.demand(reader.ahead() == sign)
    reader.step()


def _read_name(reader):
    reader.demand(is_name(reader.ahead()))
    return reader.step()


def _read_option(reader):
    reader.demand(is_option_token(reader.ahead()))
    return reader.step()[1:-1]

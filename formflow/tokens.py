"""The parting of the text of an expression into tokens (t1)."""

from formflow.values import DIGITS, LETTERS, is_name, is_numeral

DOUBLE_SIGNS = ("<>", "<=", ">=", "??")
GREATEST_NUMBER = 9999


def tokens_of(text):
    """The list of the tokens of a text, those that fit nowhere too."""
    tokens = []
    at = 0
    while at < len(text):
        end = _token_end(text, at)
        if text[at] != " ":
            tokens.append(text[at:end])
        at = end
    return tokens


def is_number_token(token):
    """Whether a token is a number that an expression may have."""
    return is_numeral(token) and int(token) <= GREATEST_NUMBER


def is_option_token(token):
    """Whether a token is an option, and not a lone quote."""
    return len(token) > 1 and token[0] == "'"


def _token_end(text, at):
    sign = text[at]
    if sign in LETTERS:
        return _run_end(text, at, LETTERS + DIGITS)
    if sign in DIGITS:
        return _run_end(text, at, DIGITS)
    if sign == "'":
        return _option_end(text, at)
    if text[at:at + 2] in DOUBLE_SIGNS:
        return at + 2
    return at + 1


def _run_end(text, at, signs):
    end = at
    while end < len(text) and text[end] in signs:
        end += 1
    return end


def _option_end(text, at):
    close = text.find("'", at + 1)
    if close > at and is_name(text[at + 1:close]):
        return close + 1
    return at + 1

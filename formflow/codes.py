"""Codes of values as they stand in a line of a text (w1, j1)."""

from formflow.values import code_of, is_value, value_of


def code_in_line(value):
    """The code of a value, with its newlines and backslashes written as two signs each."""
    return code_of(value).replace("\\", "\\\\").replace("\n", "\\n")


def value_in_line(text):
    """The value of an entry that is written so, or None if there is none."""
    code = _without_escapes(text)
    value = None if code is None else value_of(code)
    # A code can have a greater number than an entry.
    return value if is_value(value) else None


def _without_escapes(text):
    """What is written with escapes in a text; None if one of them is none."""
    signs = []
    is_escape = False
    for sign in text:
        if is_escape and sign not in ("n", "\\"):
            return None
        if is_escape:
            signs.append("\n" if sign == "n" else "\\")
        elif sign != "\\":
            signs.append(sign)
        is_escape = not is_escape and sign == "\\"
    return None if is_escape else "".join(signs)

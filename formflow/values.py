"""Names (c1), values (c2) and their codes (v1)."""

LETTERS = "abcdefghijklmnopqrstuvwxyz"
DIGITS = "0123456789"
RESERVED = ("if", "then", "else", "or", "and", "not", "yes", "no", "row")
LONGEST_NAME = 6
LONGEST_ROW = 8
MOST_DIGITS = 100
GREATEST_ENTRY = 9999


def is_name(text):
    """Whether a text is a name (anything else is none)."""
    if not isinstance(text, str) or text in RESERVED:
        return False
    if not 1 <= len(text) <= LONGEST_NAME or text[0] not in LETTERS:
        return False
    return all(sign in LETTERS or sign in DIGITS for sign in text)


def is_row(text):
    """Whether a text is the id of a row of a section that repeats."""
    return 1 <= len(text) <= LONGEST_ROW and all(sign in LETTERS or sign in DIGITS for sign in text)


def is_numeral(text):
    """Whether a text is a number from 0 on, without a zero ahead."""
    # str.isdigit would let digits of other scripts pass.
    if text == "" or not all(sign in DIGITS for sign in text):
        return False
    return text == "0" or text[0] != "0"


def is_value(thing):
    """Whether a thing is a value that may stand in an entry."""
    if not isinstance(thing, tuple) or len(thing) != 2:
        return False
    kind, worth = thing
    if kind == "truth":
        return isinstance(worth, bool)
    if kind == "number":
        return _is_entry_number(worth)
    if kind == "option":
        return is_name(worth)
    if kind == "options":
        return isinstance(worth, tuple) and _are_options(worth)
    return kind == "text" and isinstance(worth, str)


def code_of(value):
    """The code of a value; the empty text for what is open."""
    if value is None:
        return ""
    kind, worth = value
    if kind == "truth":
        return "yes" if worth else "no"
    if kind == "number":
        return str(worth)
    if kind == "option":
        return "." + worth
    if kind == "options":
        return "[" + ",".join(worth) + "]"
    return '"' + worth


def value_of(code):
    """The value that has this code, or None if there is none."""
    if code in ("yes", "no"):
        return ("truth", code == "yes")
    if code.startswith('"'):
        return ("text", code[1:])
    if code.startswith("."):
        return ("option", code[1:]) if is_name(code[1:]) else None
    if code.startswith("[") and code.endswith("]"):
        return _options_in(code[1:-1])
    return _number_in(code)


def _is_entry_number(thing):
    # True and False are integers for Python, but not for the document.
    if not isinstance(thing, int) or isinstance(thing, bool):
        return False
    return -GREATEST_ENTRY <= thing <= GREATEST_ENTRY


def _are_options(names):
    if not all(is_name(name) for name in names):
        return False
    return list(names) == sorted(set(names))


def _options_in(listed):
    names = tuple(listed.split(",")) if listed else ()
    return ("options", names) if _are_options(names) else None


def _number_in(code):
    digits = code[1:] if code.startswith("-") else code
    if code == "-0" or len(digits) > MOST_DIGITS or not is_numeral(digits):
        return None
    return ("number", int(code))

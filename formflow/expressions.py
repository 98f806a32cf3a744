"""The parts of expressions (c3), whatever is made of them.

Expressions can be deep; so their parts are gone through in a row, not by
functions that call themselves.
"""


def parts_of(expression):
    """The expressions of which an expression is made directly, in order."""
    kind = expression[0]
    if kind in ("not", "minus", "if"):
        return expression[1:]
    if kind == "op":
        return expression[2:]
    return ()


def all_parts(expression):
    """The list of all parts of an expression, each behind its own parts; the last is itself."""
    found = []
    waiting = [expression]
    while waiting:
        part = waiting.pop()
        found.append(part)
        waiting.extend(parts_of(part))
    found.reverse()
    return found


def fold(expression, combine):
    """Makes something of an expression: combine(part, what was made of the parts of this part)."""
    made = []
    for part in all_parts(expression):
        start = len(made) - len(parts_of(part))
        made[start:] = [combine(part, made[start:])]
    return made[0]

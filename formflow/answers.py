"""What questions accept (s5)."""

from formflow.meaning import meaning
from formflow.values import GREATEST_ENTRY, is_value

YES = ("truth", True)


def value_in(environment, expression):
    """The value of an expression; an environment is what meaning asks for, as a tuple."""
    names, rows, number = environment
    return meaning(expression, names, rows, number)


def holds(environment, condition):
    """Whether a condition is yes, or is not there."""
    return condition is None or value_in(environment, condition) == YES


def is_accepted(kind, environment, value):
    """Whether a question of this kind accepts a value."""
    if not is_value(value):
        return False
    if kind[0] == "integer":
        least, greatest = _bounds(kind, environment)
        return value[0] == "number" and least <= value[1] <= greatest
    if kind[0] == "choice":
        return value[0] == "option" and value[1] in _options(kind, environment)
    if kind[0] == "choices":
        options = _options(kind, environment)
        return value[0] == "options" and all(name in options for name in value[1])
    if kind[0] == "text":
        return value[0] == "text" and len(value[1]) <= kind[1]
    return value[0] == "truth"


def accepts_none(kind, environment):
    """Whether a question of this kind accepts no value at all."""
    if kind[0] == "integer":
        least, greatest = _bounds(kind, environment)
        return least > greatest
    # No other kind can run out: no options are an answer, and so is the empty text.
    return kind[0] == "choice" and not _options(kind, environment)


def _bounds(kind, environment):
    """The least and the greatest number that an integer question accepts."""
    least, greatest = -GREATEST_ENTRY, GREATEST_ENTRY
    low = _number_in(environment, kind[1])
    high = _number_in(environment, kind[2])
    return (least if low is None else max(least, low), greatest if high is None else min(greatest, high))


def _number_in(environment, bound):
    """The number that a bound has as its value, or None."""
    value = None if bound is None else value_in(environment, bound)
    return value[1] if value is not None and value[0] == "number" else None


def _options(kind, environment):
    """The names of the options that can be chosen."""
    return [name for name, condition in kind[1] if holds(environment, condition)]

"""What expressions come to (m1)."""

from formflow.expressions import fold

GREATEST_RESULT = 1000000


def meaning(expression, names, rows, number):
    """The value of an expression in an environment, or None where it is open."""
    return fold(expression, lambda part, inner: _value_of_part(part, inner, names, rows, number))


def _value_of_part(part, inner, names, rows, number):
    """The value of a part; inner has the values of its own parts."""
    kind = part[0]
    if kind == "name":
        return names.get(part[1])
    if kind == "row":
        return None if number is None else ("number", number)
    if kind == "not":
        return _negation(inner[0])
    if kind == "minus":
        return _calculation("-", ("number", 0), inner[0])
    if kind == "op":
        return _operation(part[1], inner[0], inner[1])
    if kind == "if":
        return _choice(inner[0], inner[1], inner[2])
    if kind == "has":
        return _membership(names.get(part[1]), part[2])
    if kind == "ask" and part[1] == "answered":
        return ("truth", names.get(part[2]) is not None)
    if kind == "ask":
        return _value_over_rows(part[1], rows.get(part[2], ()))
    return part


def _worth(value, kind):
    """What a value of this kind has in it; None for what is open or of another kind."""
    return value[1] if value is not None and value[0] == kind else None


def _negation(value):
    truth = _worth(value, "truth")
    return None if truth is None else ("truth", not truth)


def _choice(test, one, other):
    truth = _worth(test, "truth")
    if truth is None:
        return None
    return one if truth else other


def _membership(value, option):
    options = _worth(value, "options")
    return None if options is None else ("truth", option in options)


def _operation(sign, one, other):
    if sign == "??":
        return other if one is None else one
    if sign == "or":
        return _any_of((one, other))
    if sign == "and":
        return _all_of((one, other))
    if sign in ("=", "<>"):
        return _likeness(sign, one, other)
    if sign in ("+", "-", "*"):
        return _calculation(sign, one, other)
    return _comparison(sign, one, other)


def _all_of(values):
    """The and of values."""
    truths = [_worth(value, "truth") for value in values]
    if False in truths:
        return ("truth", False)
    return None if None in truths else ("truth", True)


def _any_of(values):
    """The or of values."""
    truths = [_worth(value, "truth") for value in values]
    if True in truths:
        return ("truth", True)
    return None if None in truths else ("truth", False)


def _likeness(sign, one, other):
    if one is None or other is None:
        return None
    return ("truth", (one == other) == (sign == "="))


def _comparison(sign, one, other):
    left, right = _worth(one, "number"), _worth(other, "number")
    if left is None or right is None:
        return None
    if sign == "<":
        return ("truth", left < right)
    if sign == "<=":
        return ("truth", left <= right)
    if sign == ">":
        return ("truth", left > right)
    return ("truth", left >= right)


def _calculation(sign, one, other):
    left, right = _worth(one, "number"), _worth(other, "number")
    if left is None or right is None:
        return None
    if sign == "+":
        return _result(left + right)
    if sign == "-":
        return _result(left - right)
    return _result(left * right)


def _result(number):
    return ("number", number) if -GREATEST_RESULT <= number <= GREATEST_RESULT else None


def _value_over_rows(function, values):
    if function == "count":
        return ("number", len(values))
    if function == "any":
        return _any_of(values)
    if function == "all":
        return _all_of(values)
    numbers = [_worth(value, "number") for value in values]
    if None in numbers:
        return None
    if function == "sum":
        return _result(sum(numbers))
    if not numbers:
        return None
    return ("number", min(numbers) if function == "least" else max(numbers))

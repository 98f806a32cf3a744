"""The document once more, in another way: slow and plain, for tests that compare with it."""

LIMIT = 1000000


def value(e, names, rows, number):
    """m1, by recursion."""
    def inner(part):
        return value(part, names, rows, number)

    if e[0] in ("number", "truth", "option"):
        return e
    if e[0] == "name":
        return names.get(e[1])
    if e[0] == "row":
        return ("number", number) if number is not None else None
    if e[0] == "has":
        found = names.get(e[1])
        return ("truth", e[2] in found[1]) if found is not None and found[0] == "options" else None
    if e[0] == "if":
        test = inner(e[1])
        return {("truth", True): inner(e[2]), ("truth", False): inner(e[3])}.get(test)
    if e[0] == "not":
        return {("truth", True): ("truth", False), ("truth", False): ("truth", True)}.get(inner(e[1]))
    if e[0] == "minus":
        found = inner(e[1])
        return bounded(-found[1]) if found is not None and found[0] == "number" else None
    if e[0] == "ask":
        return asked(e[1], names.get(e[2]), rows.get(e[2], ()))
    return joined(e[1], inner(e[2]), inner(e[3]))


def bounded(number):
    return ("number", number) if abs(number) <= LIMIT else None


def asked(function, own, values):
    if function == "answered":
        return ("truth", own is not None)
    if function == "count":
        return ("number", len(values))
    if function in ("any", "all"):
        found = ("truth", function == "all")
        for one in values:
            found = joined("or" if function == "any" else "and", found, one)
        return found
    if any(one is None or one[0] != "number" for one in values):
        return None
    numbers = sorted(one[1] for one in values)
    if function == "sum":
        return bounded(sum(numbers))
    return ("number", numbers[0 if function == "least" else -1]) if numbers else None


def joined(sign, one, other):
    if sign == "??":
        return one or other
    if sign in ("and", "or"):
        decides = ("truth", sign == "or")
        if decides in (one, other):
            return decides
        undecided = ("truth", sign != "or")
        return undecided if (one, other) == (undecided, undecided) else None
    if one is None or other is None:
        return None
    if sign == "=":
        return ("truth", one == other)
    if sign == "<>":
        return ("truth", one != other)
    if one[0] != "number" or other[0] != "number":
        return None
    left, right = one[1], other[1]
    if sign in "+-*":
        return bounded({"+": left + right, "-": left - right, "*": left * right}[sign])
    return ("truth", {"<": left < right, "<=": left <= right, ">": left > right, ">=": left >= right}[sign])

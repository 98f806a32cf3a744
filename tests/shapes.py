"""Random shapes of expressions, for tests; pick is a random.Random."""

SIGNS = ("or", "and", "=", "<>", "<", "<=", ">", ">=", "+", "-", "*", "??")
FUNCTIONS = ("answered", "count", "sum", "any", "all", "least", "greatest")
NAMES = ("a", "b", "c", "sum", "has", "b1", "abcdef")


def random_expression(pick, depth, names=NAMES):
    """Any expression, whatever its kind."""
    if depth <= 0 or pick.random() < 0.2:
        name = pick.choice(names)
        return pick.choice((
            ("number", pick.choice((0, 1, 2, 7, 10, 9999))), ("truth", True), ("truth", False), ("option", "o"),
            ("option", "p"), ("name", name), ("name", name), ("row",), ("ask", pick.choice(FUNCTIONS), name),
            ("has", name, pick.choice("op"))))
    parts = [random_expression(pick, depth - 1, names) for _ in range(3)]
    return pick.choice((
        ("op", pick.choice(SIGNS), parts[0], parts[1]),
        ("op", pick.choice(SIGNS), parts[0], parts[1]),
        ("not", parts[0]), ("minus", parts[0]), ("if", *parts)))

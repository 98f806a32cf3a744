"""Random right forms, and entries for them, for tests; pick is a random.Random.

What may be read where is kept track of here once more, apart from the package.
"""

ROWS = ("1x1", "1x2", "2x1", "a", "b")
OPTIONS = "opqrs"
KINDS = ("truth", "number", "option")
# What an expression of a kind can be made of; with an @ ahead the kind of a part.
SHAPES = {
    "any": [("if", "@truth", "@kind", "@kind"), ("op", "??", "@kind", "@kind")],
    "option": [],
    "number": [("op", sign, "@number", "@number") for sign in "+-*"] + [("minus", "@number")],
    "truth": [("op", sign, "@truth", "@truth") for sign in ("and", "or")] + [("not", "@truth")] +
             [("op", sign, "@same", "@same") for sign in ("=", "<>")] +
             [("op", sign, "@number", "@number") for sign in ("<", "<=", ">", ">=")],
}


class Sight:
    """What can be read at a place: names by kinds, names over rows by kinds, sections, a row."""

    def __init__(self):
        self.names = {kind: [] for kind in KINDS + ("options", "text")}
        self.over = {kind: [] for kind in KINDS + ("options", "text")}
        self.counted = []
        self.has_row = False

    def any_name(self):
        return [name for names in self.names.values() for name in names]


def expression(pick, sight, kind, depth):
    """An expression of a kind."""
    if depth <= 0 or pick.random() < 0.25:
        return pick.choice(leaves(pick, sight, kind))
    shape = pick.choice(SHAPES["any"] + SHAPES[kind])
    parts = {"same": pick.choice(KINDS), "kind": kind, "truth": "truth", "number": "number"}
    return tuple(expression(pick, sight, parts[part[1:]], depth - 1) if part[0] == "@" else part for part in shape)


def leaves(pick, sight, kind):
    read = [("name", name) for name in sight.names[kind]]
    if kind == "truth":
        literals = [("truth", pick.random() < 0.7)]
        read += [("ask", "answered", name) for name in sight.any_name()]
        read += [("has", name, pick.choice(OPTIONS)) for name in sight.names["options"]]
        read += [("ask", pick.choice(("any", "all")), name) for name in sight.over["truth"]]
    elif kind == "number":
        literals = [("number", pick.choice((0, 1, 2, 5, 10, 9999)))] + [("row",)] * (2 * sight.has_row)
        read += [("ask", "count", name) for name in sight.counted]
        read += [("ask", pick.choice(("sum", "least", "greatest")), name) for name in sight.over["number"] * 2]
    else:
        literals = [("option", pick.choice(OPTIONS))]
    return literals + read * 3


def maybe(pick, sight, kind, chance):
    return expression(pick, sight, kind, 2) if pick.random() < chance else None


def form(pick, names=None):
    """A right form; names are those of its sections and fields, in some order."""
    names = list(names or (f"{letter}{number}" for letter in "stuv" for number in range(5)))
    sight = Sight()
    sections = []
    for _ in range(pick.randrange(1, 5)):
        name, condition = names.pop(0), maybe(pick, sight, "truth", 0.4)
        most = pick.choice((0, 0, 1, 2, 3))
        own, fields = [], []
        sight.has_row = most > 0
        for _ in range(pick.randrange(1, 4)):
            made, kind = field(pick, sight, names.pop(0))
            fields.append(made)
            if kind is not None:
                sight.names[kind].append(made[1])
                own.append((kind, made[1]))
        sight.has_row = False
        if most > 0:
            sight.counted.append(name)
            for kind, other in own:
                sight.names[kind].remove(other)
                sight.over[kind].append(other)
        sections.append((name, condition, most, tuple(fields)))
    return tuple(sections)


def field(pick, sight, name):
    """A field and the kind by which it is read (None: not at all)."""
    condition = maybe(pick, sight, "truth", 0.3)
    what = pick.choice(("question", "question", "question", "formula", "rule"))
    if what == "formula":
        kind = pick.choice(KINDS)
        return (what, name, condition, expression(pick, sight, kind, 3)), kind
    if what == "rule":
        return (what, name, condition, expression(pick, sight, "truth", 3), "rule", pick.random() < 0.5), None
    options = tuple((option, maybe(pick, sight, "truth", 0.5))
                    for option in pick.sample(OPTIONS, pick.randrange(1, 6)))
    kind, answers = pick.choice((
        ("truth", ("truth",)),
        ("number", ("integer", maybe(pick, sight, "number", 0.4), maybe(pick, sight, "number", 0.4))),
        ("option", ("choice", options)), ("options", ("choices", options)), ("text", ("text", pick.choice((1, 2, 20))))))
    return (what, name, condition, answers, pick.random() < 0.5), kind


def value(pick, answers=None):
    """A value, mostly one that fits a question of these answers."""
    kind = pick.choice(("truth", "integer", "choice", "choices", "text"))
    if answers is not None and pick.random() < 0.9:
        kind = answers[0]
    return {
        "truth": ("truth", pick.random() < 0.7),
        "integer": ("number", pick.choice((-9999, -3, 0, 1, 2, 3, 5, 8, 11, 9999))),
        "choice": ("option", pick.choice(OPTIONS)),
        "choices": ("options", tuple(sorted(pick.sample(OPTIONS, pick.randrange(3))))),
        "text": ("text", "x" * pick.randrange(4)),
    }[kind]


def paths(made):
    """All paths that can count, with the answers of the question (None for another thing)."""
    for section in made:
        if section[2] > 0:
            yield from ((section[0], row, ("integer",)) for row in ROWS)
        for one in section[3]:
            answers = one[3] if one[0] == "question" else None
            yield from ((one[1], row, answers) for row in (ROWS if section[2] > 0 else ("",)))


def entries(pick, made, chance=0.7):
    """Entries for a form, at most one for each path, not in order."""
    found = []
    for name, row, answers in paths(made):
        if pick.random() < chance:
            worth = value(pick, answers) if pick.random() < 0.9 else None
            found.append((name, row, pick.randrange(1, 30), pick.randrange(1, 7), worth))
    pick.shuffle(found)
    return found

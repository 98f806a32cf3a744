"""The table of t2 once more, as rules, for tests that compare with it."""

RULES = {
    0: (("if", 0, "then", 0, "else", 0), (1,)),
    1: ((1, "or", 2), (2,)),
    2: ((2, "and", 3), (3,)),
    3: (("not", 3), (4,)),
    4: tuple((5, sign, 5) for sign in ("=", "<>", "<", "<=", ">", ">=")) + ((5,),),
    5: ((5, "+", 6), (5, "-", 6), (6,)),
    6: ((6, "*", 7), (7,)),
    7: ((7, "??", 8), (8,)),
    8: (("-", 8), (9,)),
    9: (("NUMBER",), ("OPTION",), ("yes",), ("no",), ("row",), ("NAME",), ("(", 0, ")"),
        ("has", "(", "NAME", ",", "OPTION", ")"), ("FUNCTION", "(", "NAME", ")")),
}
FUNCTIONS = ("answered", "count", "sum", "any", "all", "least", "greatest")
WORDS = ("if", "then", "else", "or", "and", "not", "yes", "no", "row")


def kinds_of(token):
    """What a token can be in the rules."""
    kinds = {token}
    if token in FUNCTIONS:
        kinds.add("FUNCTION")
    if token[0].isalpha() and len(token) <= 6 and token not in WORDS:
        kinds.add("NAME")
    if token.isdigit():
        kinds.add("NUMBER")
    if token[0] == "'" and len(token) > 2:
        kinds.add("OPTION")
    return kinds


class Earley:
    """Tells of tokens, one by one, whether an expression goes on with them."""

    def __init__(self):
        self.columns = []
        self.push({(0, rule, 0, 0) for rule in RULES[0]})

    def push(self, states):
        """Puts a column of states (level, rule, place in it, column of its start)."""
        here = len(self.columns)
        self.columns.append(states)
        waiting = list(states)
        while waiting:
            level, rule, place, start = waiting.pop()
            if place == len(rule):
                found = {(one, body, at + 1, begun) for one, body, at, begun in self.columns[start]
                         if at < len(body) and body[at] == level}
            elif isinstance(rule[place], int):
                found = {(rule[place], body, 0, here) for body in RULES[rule[place]]}
            else:
                found = set()
            waiting.extend(found - states)
            states |= found

    def take(self, token):
        """Goes on with a token, or tells that nothing does."""
        kinds = kinds_of(token)
        states = {(level, rule, place + 1, start) for level, rule, place, start in self.columns[-1]
                  if place < len(rule) and rule[place] in kinds}
        if states:
            self.push(states)
        return bool(states)

    def take_back(self):
        self.columns.pop()

    def is_whole(self):
        return any(level == 0 and place == len(rule) and start == 0
                   for level, rule, place, start in self.columns[-1])


def random_text(pick, level, depth):
    """Tokens of an expression of a level, and its shape; pick is a random.Random."""
    if level == 9:
        return _random_strongest(pick, depth)
    rules = RULES[level]
    rule = rules[-1] if depth <= 0 or pick.random() < 0.6 else pick.choice(rules[:-1])
    tokens, parts = [], []
    for part in rule:
        if isinstance(part, int):
            # Going over to a stronger level costs no depth: there are only ten.
            inner, shape = random_text(pick, part, depth - (len(rule) > 1))
            tokens += inner
            parts.append(shape)
        else:
            tokens.append(part)
    return tokens, _shape(rule, parts)


def _shape(rule, parts):
    if len(rule) == 1:
        return parts[0]
    if rule[0] == "if":
        return ("if",) + tuple(parts)
    if rule[0] == "not":
        return ("not", parts[0])
    if rule[0] == "-":
        return ("minus", parts[0])
    return ("op", rule[1], parts[0], parts[1])


def _random_strongest(pick, depth):
    if depth > 0 and pick.random() < 0.4:
        tokens, shape = random_text(pick, 0, depth - 1)
        return ["("] + tokens + [")"], shape
    name = pick.choice(("a", "b1", "sum", "has", "rows", "abcdef"))
    number = pick.choice((0, 7, 10, 9999))
    function = pick.choice(FUNCTIONS)
    return pick.choice((
        ([str(number)], ("number", number)),
        (["'" + name + "'"], ("option", name)),
        (["yes"], ("truth", True)),
        (["no"], ("truth", False)),
        (["row"], ("row",)),
        ([name], ("name", name)),
        (["has", "(", name, ",", "'o'", ")"], ("has", name, "o")),
        ([function, "(", name, ")"], ("ask", function, name)),
    ))

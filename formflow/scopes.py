"""The kinds of expressions (i1), and what they may read at a place of a form (i2)."""

from formflow.expressions import fold

KINDS_OF_ANSWERS = {"truth": "truth", "integer": "number", "choice": "option", "choices": "options", "text": "text"}
# The kinds that an expression can have.
KINDS_OF_NAMES = ("truth", "number", "option")
# What a sign wants of both its operands, and what it makes of them.
KINDS_OF_SIGNS = {
    "or": ("truth", "truth"),
    "and": ("truth", "truth"),
    "<": ("number", "truth"),
    "<=": ("number", "truth"),
    ">": ("number", "truth"),
    ">=": ("number", "truth"),
    "+": ("number", "number"),
    "-": ("number", "number"),
    "*": ("number", "number"),
}


class Scope:
    """What expressions may read at a place of a form.

    names: the kinds of the fields that are read by name; over: those of the
    fields that are read over rows; counted: the names of the sections that can
    be counted; has_row: whether there is a row.
    """

    def __init__(self, names, over, counted, has_row):
        self.names = names
        self.over = over
        self.counted = counted
        self.has_row = has_row


def places_of(form):
    """The list of the places of a form, in order, as (section, field, scope).

    The field is None at the condition of a section, and the section, too,
    behind the last section.
    """
    places = []
    names, over, counted = {}, {}, ()
    for section in form:
        places.append((section, None, Scope(names, over, counted, False)))
        repeats = section[2] > 0
        inner, own = dict(names), {}
        for field in section[3]:
            scope = Scope(dict(inner), over, counted, repeats)
            places.append((section, field, scope))
            kind = _kind_of_field(field, scope)
            # The first one that may be read counts, so none takes the place of another.
            if kind is not None:
                inner.setdefault(field[1], kind)
                own.setdefault(field[1], kind)
        if repeats:
            over = {**own, **over}
            counted = counted + (section[0],)
        else:
            names = inner
    places.append((None, None, Scope(names, over, counted, False)))
    return places


def scope_behind(form, section):
    """What may be read behind the last section of a right form; in a row of a section, if one is told, too (p2)."""
    behind = places_of(form)[-1][2]
    if section is None:
        return behind
    own = {field[1]: behind.over[field[1]] for field in section[3] if field[1] in behind.over}
    return Scope({**behind.names, **own}, behind.over, behind.counted, True)


def kind_at(scope, expression):
    """The kind of an expression where it has this scope, or None."""
    return fold(expression, lambda part, kinds: _kind_of_part(part, kinds, scope))


def _kind_of_field(field, scope):
    """The kind of a field; None if it is not read at all."""
    if field[0] == "question":
        return KINDS_OF_ANSWERS[field[3][0]]
    return kind_at(scope, field[3]) if field[0] == "formula" else None


def _kind_of_part(part, kinds, scope):
    """The kind of a part; kinds has those of its own parts."""
    kind = part[0]
    if kind == "name":
        found = scope.names.get(part[1])
        return found if found in KINDS_OF_NAMES else None
    if kind == "row":
        return "number" if scope.has_row else None
    if kind == "not":
        return "truth" if kinds[0] == "truth" else None
    if kind == "minus":
        return "number" if kinds[0] == "number" else None
    if kind == "op":
        return _kind_of_operation(part[1], kinds)
    if kind == "if":
        return kinds[1] if kinds[0] == "truth" and kinds[1] == kinds[2] else None
    if kind == "has":
        return "truth" if scope.names.get(part[1]) == "options" else None
    if kind == "ask":
        return _kind_of_answer(part[1], part[2], scope)
    return kind


def _kind_of_operation(sign, kinds):
    if sign in KINDS_OF_SIGNS:
        wanted, made = KINDS_OF_SIGNS[sign]
        return made if kinds == [wanted, wanted] else None
    if kinds[0] is None or kinds[0] != kinds[1]:
        return None
    return kinds[0] if sign == "??" else "truth"


def _kind_of_answer(function, name, scope):
    if function == "answered":
        return "truth" if name in scope.names else None
    if function == "count":
        return "number" if name in scope.counted else None
    wanted = "truth" if function in ("any", "all") else "number"
    return wanted if scope.over.get(name) == wanted else None

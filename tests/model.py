"""The document once more, in another way: slow and plain, for tests that compare with it."""

LIMIT = 1000000


def value(e, names, rows, number):
    """m1, by recursion."""
    def inner(part):
        return value(part, names, rows, number)

    if e[0] in ("number", "truth", "option"):
        return e
    if e[0] == "name":
        return names.get(e[1])
    if e[0] == "row":
        return ("number", number) if number is not None else None
    if e[0] == "has":
        found = names.get(e[1])
        return ("truth", e[2] in found[1]) if found is not None and found[0] == "options" else None
    if e[0] == "if":
        test = inner(e[1])
        return {("truth", True): inner(e[2]), ("truth", False): inner(e[3])}.get(test)
    if e[0] == "not":
        return {("truth", True): ("truth", False), ("truth", False): ("truth", True)}.get(inner(e[1]))
    if e[0] == "minus":
        found = inner(e[1])
        return bounded(-found[1]) if found is not None and found[0] == "number" else None
    if e[0] == "ask":
        if e[1] == "answered":
            return ("truth", names.get(e[2]) is not None)
        return asked(e[1], rows.get(e[2], ()))
    return joined(e[1], inner(e[2]), inner(e[3]))


def bounded(number):
    return ("number", number) if abs(number) <= LIMIT else None


def asked(function, values):
    if function == "count":
        return ("number", len(values))
    if function in ("any", "all"):
        found = ("truth", function == "all")
        for one in values:
            found = joined("or" if function == "any" else "and", found, one)
        return found
    if any(one is None or one[0] != "number" for one in values):
        return None
    numbers = sorted(one[1] for one in values)
    if function == "sum":
        return bounded(sum(numbers))
    return ("number", numbers[0 if function == "least" else -1]) if numbers else None


def joined(sign, one, other):
    if sign == "??":
        return one or other
    if sign in ("and", "or"):
        decides = ("truth", sign == "or")
        if decides in (one, other):
            return decides
        undecided = ("truth", sign != "or")
        return undecided if (one, other) == (undecided, undecided) else None
    if one is None or other is None:
        return None
    if sign == "=":
        return ("truth", one == other)
    if sign == "<>":
        return ("truth", one != other)
    if one[0] != "number" or other[0] != "number":
        return None
    left, right = one[1], other[1]
    if sign in "+-*":
        return bounded({"+": left + right, "-": left - right, "*": left * right}[sign])
    return ("truth", {"<": left < right, "<=": left <= right, ">": left > right, ">=": left >= right}[sign])


def all_names(e):
    """Every name that an expression reads, by recursion."""
    if e[0] in ("name", "has"):
        return {e[1]}
    if e[0] == "ask":
        return {e[2]}
    return set().union(*[all_names(part) for part in e if isinstance(part, tuple)])


# i1 to i3. A place is (index of a section, index of a field or None); behind the last section
# it is (number of sections, None).

def fields_ahead(form, place):
    """(section, index of it, field, index of it) of all fields that stand ahead of a place."""
    for at, section in enumerate(form[:place[0] + 1]):
        for number, field in enumerate(section[3]):
            if at < place[0] or (place[1] is not None and number < place[1]):
                yield section, at, field, number


def readable(form, at, number):
    """The kind of a field, None if it can't be read."""
    field = form[at][3][number]
    if field[0] == "formula":
        return kind(form, (at, number), field[3])
    return {"truth": "truth", "integer": "number", "choice": "option", "choices": "options",
            "text": "text"}[field[3][0]] if field[0] == "question" else None


def by_name(form, place, name):
    for section, at, field, number in fields_ahead(form, place):
        if field[1] == name and (section[2] == 0 or at == place[0]) and readable(form, at, number):
            return readable(form, at, number)
    return None


def over_rows(form, place, name):
    for section, at, field, number in fields_ahead(form, place):
        if field[1] == name and section[2] != 0 and at != place[0] and readable(form, at, number):
            return readable(form, at, number)
    return None


def kind(form, place, e):
    if e[0] in ("number", "truth", "option"):
        return e[0]
    if e[0] == "name":
        found = by_name(form, place, e[1])
        return found if found in ("truth", "number", "option") else None
    if e[0] == "row":
        return "number" if place[1] is not None and form[place[0]][2] > 0 else None
    if e[0] == "has":
        return "truth" if by_name(form, place, e[1]) == "options" else None
    if e[0] == "ask":
        if e[1] == "answered":
            return "truth" if by_name(form, place, e[2]) else None
        if e[1] == "count":
            counted = [section[0] for section in form[:place[0]] if section[2] > 0]
            return "number" if e[2] in counted else None
        wanted = "truth" if e[1] in ("any", "all") else "number"
        return wanted if over_rows(form, place, e[2]) == wanted else None
    parts = [kind(form, place, part) for part in e if isinstance(part, tuple)]
    if None in parts:
        return None
    if e[0] == "not":
        return "truth" if parts == ["truth"] else None
    if e[0] == "minus":
        return "number" if parts == ["number"] else None
    if e[0] == "if":
        return parts[1] if parts[0] == "truth" and parts[1] == parts[2] else None
    if parts[0] != parts[1]:
        return None
    if e[1] == "??":
        return parts[0]
    if e[1] in ("=", "<>"):
        return "truth"
    wanted, made = {"and": ("truth", "truth"), "or": ("truth", "truth"), "+": ("number", "number"),
                    "-": ("number", "number"), "*": ("number", "number")}.get(e[1], ("number", "truth"))
    return made if parts[0] == wanted else None


def issues(form):
    names = [name for section in form for name in [section[0]] + [field[1] for field in section[3]]]
    found = [(name, "twice") for at, name in enumerate(names) if names[at + 1:].count(name)]

    def check(place, e, wanted, name, issue):
        if e is not None and kind(form, place, e) not in wanted:
            found.append((name, issue))

    for at, section in enumerate(form):
        check((at, None), section[1], ["truth"], section[0], "condition")
        for number, field in enumerate(section[3]):
            place, name = (at, number), field[1]
            check(place, field[2], ["truth"], name, "condition")
            if field[0] == "formula":
                check(place, field[3], ["truth", "number", "option"], name, "formula")
            elif field[0] == "rule":
                check(place, field[3], ["truth"], name, "rule")
            elif field[3][0] == "integer":
                check(place, field[3][1], ["number"], name, "bound")
                check(place, field[3][2], ["number"], name, "bound")
            elif field[3][0] in ("choice", "choices"):
                options = [option for option, _ in field[3][1]]
                if any(options.count(option) > 1 for option in options):
                    found.append((name, "options"))
                for _, condition in field[3][1]:
                    check(place, condition, ["truth"], name, "options")
    return found


# s1 to s5.

class Found:
    """Something like a dict that works out what it is asked for."""

    def __init__(self, find):
        self.find = find

    def get(self, name, default=None):
        found = self.find(name)
        return default if found is None else found


class State:
    """A state that works out each field when it is asked for, from the entries alone."""

    def __init__(self, form, heap):
        self.form = form
        self.values = {entry[:2]: entry[4] for entry in heap}
        self.rows = {}
        self.known = {}
        for section in form:
            self.rows[section[0]] = self.rows_of(section)

    def yes(self, e, section, row):
        return e is None or self.value(e, section, row) == ("truth", True)

    def rows_of(self, section):
        if not self.yes(section[1], section, None):
            return None
        if section[2] == 0:
            return ("",)
        placed = sorted((value[1], row) for (name, row), value in self.values.items()
                        if name == section[0] and value is not None and value[0] == "number")
        return tuple(row for _, row in placed[:section[2]])

    def value(self, e, section, row):
        own = [field[1] for field in section[3]]

        def name_of(name):
            return self.field(name, row if name in own else "")[1]

        def rows_of(name):
            if name in self.rows:
                return ("row",) * len(self.rows[name] or ())
            home = [other for other in self.form if name in [field[1] for field in other[3]]][0]
            states = [self.field(name, at) for at in self.rows[home[0]] or ()]
            return tuple(state[1] for state in states if state[0])

        number = None
        if section[2] > 0 and row is not None:
            number = self.rows[section[0]].index(row) + 1
        return value(e, Found(name_of), Found(rows_of), number)

    def field(self, name, row):
        """The state of the field at a path."""
        if (name, row) not in self.known:
            self.known[name, row] = self.field_anew(name, row)
        return self.known[name, row]

    def field_anew(self, name, row):
        section, field = [(section, field) for section in self.form for field in section[3] if field[1] == name][0]
        if row not in (self.rows[section[0]] or ()) or not self.yes(field[2], section, row):
            return (False, None, False, False)
        if field[0] != "question":
            return (True, self.value(field[3], section, row), False, False)
        entry = self.values.get((name, row))
        fits = self.test_of(field[3], section, row)
        if entry is None:
            return (True, None, False, not any(fits(one) for one in SAMPLES))
        return (True, entry if fits(entry) else None, not fits(entry), False)

    def test_of(self, answers, section, row):
        """A function that tells of a value whether it is accepted."""
        if answers[0] == "truth":
            return lambda one: one[0] == "truth"
        if answers[0] == "text":
            return lambda one: one[0] == "text" and len(one[1]) <= answers[1]
        if answers[0] == "integer":
            low, high = [bound if bound is None else self.value(bound, section, row) for bound in answers[1:]]
            return lambda one: one[0] == "number" and (low is None or low[1] <= one[1]) and (
                high is None or one[1] <= high[1])
        there = {option for option, condition in answers[1] if self.yes(condition, section, row)}
        if answers[0] == "choice":
            return lambda one: one[0] == "option" and one[1] in there
        return lambda one: one[0] == "options" and there.issuperset(one[1])

    def whole(self):
        sections = tuple((name, rows is not None, rows or ()) for name, rows in self.rows.items())
        fields = tuple(((field[1], row), self.field(field[1], row)) for section in self.form
                       for row in self.rows[section[0]] or () for field in section[3])
        return sections, fields


# A question that accepts anything accepts one of these.
SAMPLES = tuple(("option", name) for name in "opqrs") + (("options", ()), ("truth", True), ("text", "")) + tuple(
    ("number", number) for number in range(-9999, 10000))


# d1 and d3.

def dependents(form, names):
    found = list(names)
    for section in form:
        reads = [section] + list(section[3])
        for thing in reads:
            if thing is section:
                name, shapes = section[0], [section[1]]
            else:
                name = thing[1]
                shapes = [thing[2]] + (shapes_in(thing[3]) if thing[0] == "question" else [thing[3]])
            read = set().union(*[all_names(shape) for shape in shapes if shape is not None])
            if name not in found and (read & set(found) or (thing is not section and section[0] in found)):
                found.append(name)
    return tuple(found)


def shapes_in(kind_of_answers):
    if kind_of_answers[0] == "integer":
        return list(kind_of_answers[1:])
    if kind_of_answers[0] in ("choice", "choices"):
        return [condition for _, condition in kind_of_answers[1]]
    return []


def report(old_form, old, form, new):
    nothing = (False, None, False, False)
    old_most = {section[0]: section[2] for section in old_form}
    old_sections = {name: (visible, rows) for name, visible, rows in old[0]}
    sections = []
    for section, (name, visible, rows) in zip(form, new[0]):
        told = (visible, rows if section[2] else (), bool(section[2]))
        ahead = (False, (), bool(section[2]))
        if name in old_sections:
            there, active = old_sections[name]
            ahead = (there, active if old_most[name] else (), bool(old_most[name]))
        if told != ahead:
            sections.append((name, told[0], told[1]))
    there = [section[0] for section in form]
    sections += [(name, False, ()) for name, visible, _ in old[0] if visible and name not in there]
    before, behind = dict(old[1]), dict(new[1])
    fields = [(path, behind[path]) for path in in_order(form, new) if behind[path] != before.get(path, nothing)]
    fields += [(path, nothing) for path in in_order(old_form, old) if before[path][0] and path not in behind]
    return tuple(sections), tuple(fields)


def in_order(form, state):
    """The paths of a state by sections, fields and rows."""
    at = {}
    for number, (section, (_, _, rows)) in enumerate(zip(form, state[0])):
        for place, field in enumerate(section[3]):
            for row in rows:
                at[(field[1], row)] = (number, place, rows.index(row))
    return sorted(at, key=at.get)

"""Responses once more, in another way: slow and plain, for tests that compare with it (r1 to r5, b1, b2, n1, j1)."""

import model


class Refused(Exception):
    """An edit or a delta is refused."""

    def __init__(self, reason):
        super().__init__(reason)
        self.reason = reason


def code(value):
    if value is None:
        return ""
    kind, worth = value
    return {"truth": {True: "yes", False: "no"}.get(worth), "number": str(worth), "option": f".{worth}",
            "options": "[" + ",".join(map(str, worth)) + "]" if isinstance(worth, tuple) else "",
            "text": f'"{worth}'}[kind]


def is_value(value):
    kind, worth = value
    return kind != "number" or abs(worth) <= 9999


class PlainResponse:
    """Keeps every entry that it ever had, and works all out from them."""

    def __init__(self, document, replica, form):
        self.told = (document, replica)
        self.now = form
        self.log = set()
        self.clocks = {}
        self.lines = []
        self.done, self.undone = [], []
        # Entries that count as another one, or as nothing.
        self.instead = {}

    def newest(self):
        found = {}
        for entry in sorted(self.log, key=lambda one: (one[2], one[3], code(one[4]))):
            found[entry[:2]] = entry
        return found

    def entries(self):
        return tuple(entry for _, entry in sorted(self.newest().items()))

    def version(self):
        return tuple(sorted(self.clocks.items()))

    def form(self):
        return self.now

    def state(self):
        return model.State(self.now, self.entries()).whole()

    def journal(self):
        return "".join(line + "\n" for line in self.lines)

    def question(self, path):
        """The kind of answers of the question visible at a path."""
        for other, found in self.state()[1]:
            if other == path and found[0]:
                for section in self.now:
                    for field in section[3]:
                        if field[1] == path[0] and field[0] == "question":
                            return section, field[3]
        raise Refused("no question")

    def rows(self, name):
        for section, (_, visible, rows) in zip(self.now, self.state()[0]):
            if section[0] == name and section[2] and visible:
                return section[2], list(rows)
        raise Refused("no section")

    def positions(self, name):
        return {row: entry[4][1] for (other, row), entry in self.newest().items()
                if other == name and row and entry[4] and entry[4][0] == "number"}

    def write(self, values):
        """Writes a dict of values; tells what differs."""
        old = self.state()
        if values:
            clock = max(self.clocks.values(), default=0) + 1
            self.clocks[self.told[1]] = clock
            self.log |= {(*path, clock, self.told[1], value) for path, value in values.items()}
        return model.report(self.now, old, self.now, self.state())

    def very(self, path):
        entry = self.newest().get(path)
        return self.instead.get(entry, entry)

    def edit(self, values, *line):
        before = {path: self.very(path) for path in values}
        told = self.write(values)
        self.done.append({path: (before[path], self.newest()[path]) for path in values})
        self.done = self.done[-20:]
        self.undone = []
        self.lines.append(" ".join(line))
        return told

    def put(self, path, value):
        section, answers = self.question(path)
        fits = model.State(self.now, self.entries()).test_of(answers, section, path[1])
        if not is_value(value) or not fits(value):
            raise Refused("not accepted")
        return self.edit({path: value}, "put", "/".join(path).rstrip("/"),
                         code(value).replace("\\", "\\\\").replace("\n", "\\n"))

    def clear(self, path):
        self.question(path)
        return self.edit({path: None}, "clear", "/".join(path).rstrip("/"))

    def add(self, name):
        most, rows = self.rows(name)
        position = max(self.positions(name).values(), default=0) + 1
        if len(rows) == most or position > 9999:
            raise Refused("too many rows")
        row = f"{self.told[1]}x{max(self.clocks.values(), default=0) + 1}"
        return row, self.edit({(name, row): ("number", position)}, "add", name)

    def remove(self, name, row):
        if row not in self.rows(name)[1]:
            raise Refused("no row")
        return self.edit({(name, row): None}, "remove", name, row)

    def order(self, name, told):
        rows = self.rows(name)[1]
        if sorted(rows) != sorted(told):
            raise Refused("no order")
        first = min([self.positions(name)[row] for row in rows], default=0) - len(rows)
        if first < -9999:
            raise Refused("no order")
        return self.edit({(name, row): ("number", first + at) for at, row in enumerate(told)}, "order", name, *told)

    def move(self, edits, others, place, line):
        """Takes the last one of some edits over to others; place 0: to what was ahead of it, 1: behind."""
        if not edits:
            return None
        edit = edits.pop()
        others.append(edit)
        target = {path: both[place] for path, both in edit.items() if self.very(path) == both[1 - place]}
        told = self.write({path: entry and entry[4] for path, entry in target.items()})
        self.instead.update({self.newest()[path]: entry for path, entry in target.items()})
        self.lines.append(line)
        return told

    def undo(self):
        return self.move(self.done, self.undone, 0, "undo")

    def redo(self):
        return self.move(self.undone, self.done, 1, "redo")

    def since(self, version):
        known = dict(version)
        return (self.told[0], version, self.version(),
                tuple(entry for entry in self.entries() if entry[2] > known.get(entry[3], 0)))

    def merge(self, delta):
        document, since, version, entries = delta
        if document != self.told[0]:
            raise Refused("document")
        if any(self.clocks.get(replica, 0) < clock for replica, clock in since):
            raise Refused("gap")
        old = self.state()
        self.log |= set(entries)
        for replica, clock in version:
            self.clocks[replica] = max(self.clocks.get(replica, 0), clock)
        return model.report(self.now, old, self.now, self.state())

    def change_form(self, form):
        old_form, old = self.now, self.state()
        self.now = form
        return model.report(old_form, old, form, self.state())

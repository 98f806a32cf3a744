"""Responses: each is one device's copy of a filled form (r1 to r5)."""

from formflow.codes import code_in_line
from formflow.copies import merged
from formflow.entries import entry_at, heap, merge_versions, placed_rows, uncovered
from formflow.errors import BadEdit
from formflow.forms import field_of, section_of
from formflow.history import History
from formflow.reach import renew, report
from formflow.state import accepts, state_at, work_out
from formflow.values import GREATEST_ENTRY

NOTHING_TOLD = ((), ())


class Response:
    """A filled form on one device; raises BadForm for a form with issues."""

    def __init__(self, document, replica, form):
        self._state = work_out(form, ())
        self._document = document
        self._replica = replica
        self._form = form
        self._entries = ()
        self._version = ()
        self._history = History()
        self._lines = []

    def put(self, path, value):
        """Writes a value at a path; tells the report. Raises BadEdit, as the other edits do."""
        self._demand_question(path)
        _demand(accepts(self._form, self._state, path, value), "not accepted")
        return self._edit([(path, value)], f"put {_path_text(path)} {code_in_line(value)}")

    def clear(self, path):
        """Writes at a path that it has no value; tells the report."""
        self._demand_question(path)
        return self._edit([(path, None)], f"clear {_path_text(path)}")

    def add(self, section):
        """Adds a row to a section, behind all others; tells its id and the report."""
        active = self._active_rows(section)
        places = [place for place, _ in placed_rows(self._entries, section)]
        place = places[-1] + 1 if places else 1
        most = section_of(self._form, section)[2]
        _demand(len(active) < most and place <= GREATEST_ENTRY, "too many rows")
        row = f"{self._replica}x{self._next_clock()}"
        return (row, self._edit([((section, row), ("number", place))], f"add {section}"))

    def remove(self, section, row):
        """Removes an active row of a section; tells the report."""
        _demand(row in self._active_rows(section), "no row")
        return self._edit([((section, row), None)], f"remove {section} {row}")

    def order(self, section, rows):
        """Gives the active rows of a section the told order, ahead of where they are; tells the report."""
        active = self._active_rows(section)
        _demand(sorted(rows) == sorted(active), "no order")
        places = [place for place, _ in placed_rows(self._entries, section)]
        first = places[0] - len(active) if active else 0
        _demand(first >= -GREATEST_ENTRY, "no order")
        values = [((section, row), ("number", first + at)) for at, row in enumerate(rows)]
        return self._edit(values, " ".join(["order", section, *rows]))

    def undo(self):
        """Undoes the last edit that was not undone; tells the report, or None if there is none."""
        edit = self._history.step_back()
        if edit is None:
            return None
        own = [(path, ahead) for path, ahead, behind in edit if self._very_entry(path) == behind]
        return self._bring_back(own, "undo")

    def redo(self):
        """Does the last edit again that was undone; tells the report, or None if there is none."""
        edit = self._history.step_on()
        if edit is None:
            return None
        own = [(path, behind) for path, ahead, behind in edit if self._very_entry(path) == ahead]
        return self._bring_back(own, "redo")

    def entries(self):
        """The heap."""
        return self._entries

    def version(self):
        """The greatest clock of each replica of which it has entries."""
        return self._version

    def state(self):
        """The state of the form over the heap."""
        return self._state

    def form(self):
        """The form: the edition that it has now."""
        return self._form

    def document(self):
        """The name of the document."""
        return self._document

    def replica(self):
        """The number of the replica."""
        return self._replica

    def since(self, version):
        """The delta of what changed since a version."""
        # Made here, because the name of the function in copies is that of an argument of merge.
        return (self._document, version, self._version, uncovered(version, self._entries))

    def merge(self, delta):
        """Merges a delta; tells the report. Raises BadMerge, and then nothing changes."""
        entries, version, names = merged(self._document, self._entries, self._version, delta)
        self._version = version
        return self._turn_to(entries, names)

    def change_form(self, form):
        """Gives it the next edition of its form; tells the report. Raises BadForm, and then nothing changes."""
        state = work_out(form, self._entries)
        told = report(self._form, self._state, form, state)
        self._form = form
        self._state = state
        return told

    def journal(self):
        """The text with a line for each edit, undoing and redoing."""
        return "".join([line + "\n" for line in self._lines])

    def _demand_question(self, path):
        """Refuses an edit at a path where no question is visible."""
        field = field_of(self._form, path[0])
        _demand(field is not None and field[0] == "question" and state_at(self._state, path)[0], "no question")

    def _active_rows(self, section):
        """The active rows of a section; refuses an edit of one that does not repeat or is hidden."""
        for made, (name, visible, rows) in zip(self._form, self._state[0]):
            if name == section and made[2] > 0 and visible:
                return rows
        raise BadEdit("no section")

    def _next_clock(self):
        return max([clock for _, clock in self._version], default=0) + 1

    def _very_entry(self, path):
        """The very entry that stands at a path, None for nothing."""
        return self._history.very_entry(entry_at(self._entries, path[0], path[1]))

    def _edit(self, values, line):
        """Makes an edit that writes values, as pairs (path, value); tells the report."""
        ahead = [(path, self._very_entry(path)) for path, _ in values]
        told = self._write(values)
        self._history.keep(tuple([(path, very, self._very_entry(path)) for path, very in ahead]))
        self._lines.append(line)
        return told

    def _bring_back(self, entries, line):
        """Writes the values of very entries again, as pairs (path, entry or None); tells the report."""
        told = self._write([(path, None if very is None else very[4]) for path, very in entries])
        for path, very in entries:
            self._history.bring_back(entry_at(self._entries, path[0], path[1]), very)
        self._lines.append(line)
        return told

    def _write(self, values):
        """Writes values, as pairs (path, value), with one clock, if there are any; tells the report."""
        if not values:
            return NOTHING_TOLD
        clock = self._next_clock()
        written = tuple([(path[0], path[1], clock, self._replica, value) for path, value in values])
        self._version = merge_versions(self._version, ((self._replica, clock),))
        return self._turn_to(heap(self._entries + written), [path[0] for path, _ in values])

    def _turn_to(self, entries, names):
        """Takes over a heap that differs at most in entries with these names; tells the report."""
        ahead = self._state
        self._entries = entries
        self._state = renew(self._form, ahead, entries, names)
        return report(self._form, ahead, self._form, self._state)


def _demand(fits, reason):
    """Refuses an edit if something does not fit."""
    if not fits:
        raise BadEdit(reason)


def _path_text(path):
    """A path as journals write it."""
    return f"{path[0]}/{path[1]}" if path[1] else path[0]

"""Works out states (s1 to s6), all of a state or just a part of it."""

from formflow.answers import accepts_none, holds, is_accepted, value_in
from formflow.entries import placed_rows

HIDDEN = (False, None, False, False)


def work(form, entries, kept_sections, kept_fields):
    """The state of a right form over a heap of entries.

    What is kept is not worked out anew: kept_sections has the states of sections
    by their names, kept_fields those of fields by their paths.
    """
    values = {(entry[0], entry[1]): entry[4] for entry in entries}
    sections, fields = [], []
    for section in form:
        found = kept_sections.get(section[0])
        if found is None:
            found = _state_of_section(section, entries, environment_of((sections, fields), section, ""))
        sections.append(found)
        # Fields of a row don't see its other rows, so the rows can be gone through one by one.
        for row in found[2]:
            for field in section[3]:
                path = (field[1], row)
                state = kept_fields.get(path)
                if state is None:
                    environment = environment_of((sections, fields), section, row)
                    state = _state_of_field(field, environment, values.get(path))
                fields.append((path, state))
    return (tuple(sections), tuple(fields))


def environment_of(state, section, row):
    """What expressions see of a state in a row of a section: names, rows, number of the row.

    For the condition of a section, that is not in the state yet, the row is "";
    behind the last section it is, too, and the section is None.
    """
    names, rows, number = {}, {}, None
    for name, _, active in state[0]:
        rows[name] = (None,) * len(active)
        if section is not None and name == section[0] and section[2] > 0:
            number = active.index(row) + 1
    for (name, at), (visible, value, _, _) in state[1]:
        # Another section can have a row of this id, too: a right form reads nothing of it by name.
        if at in ("", row):
            names[name] = value
        if visible:
            rows[name] = rows.get(name, ()) + (value,)
    return (names, rows, number)


def _state_of_section(section, entries, environment):
    name, condition, most, _ = section
    if not holds(environment, condition):
        return (name, False, ())
    if most == 0:
        return (name, True, ("",))
    return (name, True, tuple([row for _, row in placed_rows(entries, name)][:most]))


def _state_of_field(field, environment, value):
    """The state of a field in an active row; value is that of the entry at its path."""
    if not holds(environment, field[2]):
        return HIDDEN
    if field[0] != "question":
        return (True, value_in(environment, field[3]), False, False)
    if value is None:
        return (True, None, False, accepts_none(field[3], environment))
    if is_accepted(field[3], environment, value):
        return (True, value, False, False)
    return (True, None, True, False)

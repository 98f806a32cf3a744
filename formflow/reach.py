"""What a change reaches (d1, d2), and what differs between two states (d3)."""

from formflow.forms import expressions_of, names_in, section_of
from formflow.state import state_at
from formflow.working import HIDDEN, work


def dependents(form, names):
    """The tuple of some names and of all that depends on them: those names, then the form's order."""
    found = []
    for name in names:
        if name not in found:
            found.append(name)
    for section in form:
        condition = () if section[1] is None else (section[1],)
        if section[0] not in found and _reads(condition, found):
            found.append(section[0])
        for field in section[3]:
            reached = section[0] in found or _reads(expressions_of(field), found)
            if field[1] not in found and reached:
                found.append(field[1])
    return tuple(found)


def renew(form, old, entries, names):
    """The state over a heap that differs from that of an old state at most in entries with these names."""
    changed = dependents(form, names)
    sections = {found[0]: found for found in old[0] if found[0] not in changed}
    fields = {path: found for path, found in old[1] if path[0] not in changed}
    return work(form, entries, sections, fields)


def report(old_form, old, form, new):
    """What differs between an old state and a new one: (sections, fields)."""
    sections = _sections_changed(old_form, old, form, new) + _sections_gone(old, form)
    return (tuple(sections), tuple(_fields_changed(old, form, new) + _fields_gone(old_form, old, new)))


def _reads(expressions, names):
    """Whether one of some expressions reads one of these names."""
    return any([name in names for expression in expressions for name in names_in(expression)])


def _told_sections(form, state):
    """What reports tell of each section, by its name: (visible, active rows, whether it repeats)."""
    told = {}
    for section, (name, visible, rows) in zip(form, state[0]):
        repeats = section[2] > 0
        told[name] = (visible, rows if repeats else (), repeats)
    return told


def _sections_changed(old_form, old, form, new):
    ahead = _told_sections(old_form, old)
    changed = []
    for name, (visible, rows, repeats) in _told_sections(form, new).items():
        # A section that was not there counts as hidden, with what it has of most now.
        if ahead.get(name, (False, (), repeats)) != (visible, rows, repeats):
            changed.append((name, visible, rows))
    return changed


def _sections_gone(old, form):
    return [(name, False, ()) for name, visible, _ in old[0] if visible and section_of(form, name) is None]


def _paths(form, state):
    """The paths of a state by sections, then fields, then rows."""
    paths = []
    for section, (_, _, rows) in zip(form, state[0]):
        paths.extend([(field[1], row) for field in section[3] for row in rows])
    return paths


def _fields_changed(old, form, new):
    paths = [path for path in _paths(form, new) if state_at(new, path) != state_at(old, path)]
    return [(path, state_at(new, path)) for path in paths]


def _fields_gone(old_form, old, new):
    there = [path for path, _ in new[1]]
    return [(path, HIDDEN) for path in _paths(old_form, old) if state_at(old, path)[0] and path not in there]

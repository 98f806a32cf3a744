"""Entries, heaps of entries (e1, e2), and versions (e3)."""

from formflow.values import code_of


def newer(one, other):
    """The newer one of two entries at one path."""
    return other if _age_of(other) > _age_of(one) else one


def heap(entries):
    """The heap of any entries: the newest one of each path, by names, then by rows."""
    newest = {}
    for entry in entries:
        path = (entry[0], entry[1])
        newest[path] = newer(newest.get(path, entry), entry)
    return tuple(newest[path] for path in sorted(newest))


def merge_versions(one, other):
    """The version with the greater clock of each replica."""
    clocks = {}
    for replica, clock in one + other:
        clocks[replica] = max(clock, clocks.get(replica, 0))
    return tuple(sorted(clocks.items()))


def covers(version, entry):
    """Whether a version has the replica of an entry with at least its clock."""
    return any(replica == entry[3] and clock >= entry[2] for replica, clock in version)


def entry_at(entries, name, row):
    """The entry of a heap at a path, or None."""
    for entry in entries:
        if entry[0] == name and entry[1] == row:
            return entry
    return None


def uncovered(version, entries):
    """The entries of a heap that a version does not cover, in order."""
    return tuple(entry for entry in entries if not covers(version, entry))


def placed_rows(entries, section):
    """The rows of a section that have a position in a heap, as (position, row), in order."""
    found = []
    for name, row, _, _, value in entries:
        # A row without an id can be left from an edition in which the name was that of a question.
        if name == section and row != "" and value is not None and value[0] == "number":
            found.append((value[1], row))
    return sorted(found)


def _age_of(entry):
    """What tells of two entries at one path which one is newer."""
    return (entry[2], entry[3], code_of(entry[4]))

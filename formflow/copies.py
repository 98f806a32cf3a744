"""What copies of a document exchange (b1, b2)."""

from formflow.entries import heap, merge_versions, uncovered
from formflow.errors import BadMerge


def delta(document, since, version, entries):
    """What changed since a version, of a heap: (document, since, version, entries)."""
    return (document, since, version, uncovered(since, entries))


def merged(document, entries, version, given):
    """(heap, version, names of the entries that differ) behind merging a delta; raises BadMerge."""
    other, since, other_version, other_entries = given
    if other != document:
        raise BadMerge("document")
    if _lacks(version, since):
        raise BadMerge("gap")
    whole = heap(entries + other_entries)
    return (whole, merge_versions(version, other_version), _names_that_differ(entries, whole))


def _lacks(version, since):
    """Whether a version has a smaller clock for some replica than another one."""
    clocks = dict(version)
    return any(clocks.get(replica, 0) < clock for replica, clock in since)


def _names_that_differ(old, new):
    """The names of the entries of a heap that an older one has not, each once, in order."""
    there = {(entry[0], entry[1]): entry for entry in old}
    names = [entry[0] for entry in new if there.get((entry[0], entry[1])) != entry]
    # A dict keeps the first place of each name.
    return tuple({name: True for name in names})

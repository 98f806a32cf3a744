"""Short names for values and for states of fields (c2, c9), for tests."""

from formflow.entries import heap

YES, NO = ("truth", True), ("truth", False)
HIDDEN = (False, None, False, False)
NOTHING = (True, None, False, False)
INVALID = (True, None, True, False)
BLOCKED = (True, None, False, True)


def number(worth):
    return ("number", worth)


def valued(value):
    return (True, value, False, False)


def heap_of(*told):
    """A heap of entries that are told as (name, row, value)."""
    return heap([(name, row, 1, 1, value) for name, row, value in told])

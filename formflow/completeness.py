"""What a response still needs (q1, q2)."""

from formflow.forms import field_of

NO = ("truth", False)


def missing(form, state):
    """The list of the paths of missing questions."""
    return [path for path, (_, value, _, _) in _to_be_answered(form, state) if value is None]


def broken(form, state):
    """The lists of the paths of broken rules: (blocking ones, others)."""
    found = ([], [])
    for path, field, (_, value, _, _) in _visible_fields(form, state):
        if field[0] == "rule" and value == NO:
            found[0 if field[5] else 1].append(path)
    return found


def faulty(form, state):
    """The lists of the paths of (invalid questions, blocked questions)."""
    seen = _visible_fields(form, state)
    return ([path for path, _, found in seen if found[2]], [path for path, _, found in seen if found[3]])


def progress(form, state):
    """(how many required questions have a value, how many there are, whether all is complete)."""
    needed = len(_to_be_answered(form, state))
    lacking = len(missing(form, state))
    return (needed - lacking, needed, lacking == 0 and not broken(form, state)[0])


def _visible_fields(form, state):
    """The list of (path, field, state of it) of the visible fields, in order of paths."""
    return [(path, field_of(form, path[0]), found) for path, found in state[1] if found[0]]


def _to_be_answered(form, state):
    """The list of (path, state of it) of the required visible questions that are not blocked."""
    return [(path, found) for path, field, found in _visible_fields(form, state)
            if field[0] == "question" and field[4] and not found[3]]

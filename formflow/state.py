"""The state of a form over a heap of entries (s1 to s6)."""

from formflow.answers import is_accepted
from formflow.errors import BadForm
from formflow.forms import fields_of
from formflow.issues import issues
from formflow.working import HIDDEN, environment_of, work


def work_out(form, entries):
    """The state of a form over a heap: (sections, fields); raises BadForm if the form has issues."""
    if issues(form):
        raise BadForm()
    return work(form, entries, {}, {})


def accepts(form, state, path, value):
    """Whether the question at a path of the state that is visible accepts a value."""
    if not state_at(state, path)[0]:
        return False
    for section, field in fields_of(form):
        if field[0] == "question" and field[1] == path[0]:
            return is_accepted(field[3], environment_of(state, section, path[1]), value)
    return False


def state_at(state, path):
    """The state of the field at a path; that of a hidden one where there is no such path."""
    for other, found in state[1]:
        if other == path:
            return found
    return HIDDEN

"""Makes responses again from their journals (j1)."""

from formflow.codes import value_in_line
from formflow.errors import BadEdit, BadJournal
from formflow.response import Response


def replay(document, replica, form, text):
    """The response of a journal, or of a beginning of one; raises BadForm and BadJournal."""
    response = Response(document, replica, form)
    # What stands behind the last newline is no whole line, and was not done.
    for number, line in enumerate(text.split("\n")[:-1], start=1):
        if not _is_done_again(response, line):
            raise BadJournal(number)
    return response


def _is_done_again(response, line):
    """Does what a line tells; whether it is a line of a journal that is not refused."""
    try:
        return _follow(response, line)
    except BadEdit:
        return False


def _follow(response, line):
    """Does what a line tells; whether it is a line of a journal, and there was something to undo or redo."""
    if line == "undo":
        return response.undo() is not None
    if line == "redo":
        return response.redo() is not None
    word, _, told = line.partition(" ")
    if word in ("put", "clear"):
        return _follow_at_path(response, word, told)
    return _follow_at_section(response, word, told.split(" "))


def _follow_at_path(response, word, told):
    place, mark, code = told.partition(" ")
    name, slash, row = place.partition("/")
    # Without a row there is no slash.
    if slash and row == "":
        return False
    if word == "put":
        # What is no code is no value, and put refuses it.
        response.put((name, row), value_in_line(code))
    elif mark == "":
        response.clear((name, row))
    else:
        return False
    return True


def _follow_at_section(response, word, pieces):
    if word == "add" and len(pieces) == 1:
        response.add(pieces[0])
    elif word == "remove" and len(pieces) == 2:
        response.remove(pieces[0], pieces[1])
    elif word == "order":
        response.order(pieces[0], tuple(pieces[1:]))
    else:
        return False
    return True

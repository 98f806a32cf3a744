"""Saved texts of responses: writes them (w1) and reads them (w2, w3)."""

from formflow.codes import code_in_line, value_in_line
from formflow.entries import covers
from formflow.errors import BadForm, BadSaved
from formflow.issues import issues
from formflow.response import Response
from formflow.values import MOST_DIGITS, is_name, is_numeral, is_row

GREATEST_REPLICA = 6
NO_ROW = "-"
DOCUMENT_LINE = 1
VERSION_LINE = 2


def save(response):
    """The saved text of a response."""
    lines = [f"response {response.document()}"]
    lines.append(" ".join(["version"] + [f"{replica}:{clock}" for replica, clock in response.version()]))
    lines.extend([_entry_line(entry) for entry in response.entries()])
    return _with_newlines(lines + [_check_line(lines)])


def load(text, replica, form):
    """The response that a saved text is, for a replica and a form; raises BadForm, and behind that BadSaved."""
    if issues(form):
        raise BadForm()
    # Not splitlines: nothing but a newline ends a line. The last piece is no whole line.
    lines = text.split("\n")
    document = _document_in(_whole_line(lines, DOCUMENT_LINE))
    version = _version_in(_whole_line(lines, VERSION_LINE))
    entries, number = _read_entries(lines, version)
    _demand(lines[number - 1] == _check_line(lines[:number - 1]), number)
    _demand(lines[number:] == [""], number + 1)
    response = Response(document, replica, form)
    # All that the text has is what changed since nothing was there.
    response.merge((document, (), version, entries))
    return response


def check_sum(text):
    """The number that tells whether the characters of a text are right."""
    total = 7
    for sign in text:
        total = (31 * total + ord(sign) + 1) % 1000003
    return total


def _with_newlines(lines):
    return "".join([line + "\n" for line in lines])


def _check_line(lines):
    """The line of the check behind some lines."""
    return f"check {check_sum(_with_newlines(lines))}"


def _entry_line(entry):
    name, row, clock, replica, value = entry
    line = f"{name} {row or NO_ROW} {clock} {replica}"
    return line if value is None else f"{line} {code_in_line(value)}"


def _demand(fits, number):
    """Refuses a text if something in a line does not fit."""
    if not fits:
        raise BadSaved(number)


def _whole_line(lines, number):
    """The line with this number; refused if it lacks, or its newline."""
    _demand(number < len(lines), number)
    return lines[number - 1]


def _document_in(line):
    word, _, document = line.partition(" ")
    _demand(word == "response" and is_name(document), DOCUMENT_LINE)
    return document


def _version_in(line):
    pieces = line.split(" ")
    pairs = [_clock_of_replica(piece) for piece in pieces[1:]]
    _demand(pieces[0] == "version" and None not in pairs, VERSION_LINE)
    replicas = [replica for replica, _ in pairs]
    _demand(replicas == sorted(set(replicas)), VERSION_LINE)
    return tuple(pairs)


def _clock_of_replica(piece):
    """The pair (replica, clock) that is written so, or None."""
    replica, _, clock = piece.partition(":")
    pair = (_replica_in(replica), _clock_in(clock))
    return None if None in pair else pair


def _read_entries(lines, version):
    """The entries of a text, and the number of the line of the check behind them."""
    entries = []
    number = VERSION_LINE + 1
    while not _is_check(_whole_line(lines, number)):
        entry = _entry_in(lines[number - 1])
        _demand(entry is not None and covers(version, entry), number)
        _demand(not entries or entries[-1][:2] < entry[:2], number)
        entries.append(entry)
        number += 1
    return tuple(entries), number


def _is_check(line):
    """Whether a line is that of a check, right or not."""
    pieces = line.split(" ")
    return len(pieces) == 2 and pieces[0] == "check" and is_numeral(pieces[1])


def _entry_in(line):
    """The entry that a line is, or None."""
    # A code can have spaces.
    pieces = line.split(" ", 4)
    if len(pieces) < 4 or not is_name(pieces[0]):
        return None
    if pieces[1] != NO_ROW and not is_row(pieces[1]):
        return None
    row = "" if pieces[1] == NO_ROW else pieces[1]
    clock, replica = _clock_in(pieces[2]), _replica_in(pieces[3])
    value = value_in_line(pieces[4]) if len(pieces) == 5 else None
    if clock is None or replica is None or (len(pieces) == 5 and value is None):
        return None
    return (pieces[0], row, clock, replica, value)


def _clock_in(text):
    """The clock that is written so, or None."""
    # Python refuses to make a number of very many digits.
    if not is_numeral(text) or text == "0" or len(text) > MOST_DIGITS:
        return None
    return int(text)


def _replica_in(text):
    """The replica that is written so, or None."""
    replica = _clock_in(text)
    return None if replica is None or replica > GREATEST_REPLICA else replica

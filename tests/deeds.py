"""Random deeds on responses, for tests; pick is a random.Random."""

import right
from formflow.errors import BadEdit, BadMerge
from plain import Refused

NAMES = [f"{letter}{number}" for letter in "stuv" for number in range(5)]


def random_deed(pick, response):
    """(name of a method, arguments): an edit, an undoing or a redoing, mostly one that is not refused."""
    form, state = response.form(), response.state()
    repeating = [(section[0], rows) for section, (_, _, rows) in zip(form, state[0]) if section[2] > 0]
    kinds = ["put"] * 6 + ["clear", "undo", "undo", "undo", "redo", "redo"]
    if repeating:
        kinds += ["add"] * 4 + ["remove", "order"]
    kind = pick.choice(kinds)
    if kind in ("put", "clear"):
        path, answers = random_path(pick, form, state)
        return (kind, (path, random_value(pick, answers))) if kind == "put" else (kind, (path,))
    if kind in ("undo", "redo"):
        return kind, ()
    name, rows = pick.choice(repeating)
    if pick.random() < 0.05:
        name = pick.choice(NAMES)
    if kind == "add":
        return kind, (name,)
    told = list(rows)
    if kind == "remove":
        return kind, (name, pick.choice(told + ["1x1"]))
    pick.shuffle(told)
    if pick.random() < 0.1:
        told += ["1x1"]
    return kind, (name, tuple(told))


def random_path(pick, form, state):
    """A path, mostly one of a visible question, and the kind of its answers."""
    answers = {field[1]: field[3] for section in form for field in section[3] if field[0] == "question"}
    paths = [path for path, found in state[1] if path[0] in answers and found[0]]
    if not paths or pick.random() < 0.08:
        paths = [path for path, _ in state[1]] + [(pick.choice(NAMES), pick.choice(("", "1x1", "2x3")))]
    path = pick.choice(paths)
    return path, answers.get(path[0])


def random_value(pick, answers):
    if answers is not None and answers[0] == "text":
        return ("text", "".join(pick.choice('ab\\\n" n') for _ in range(pick.randrange(4))))
    return right.value(pick, answers)


def outcome(response, deed):
    """What a deed told, or with which reason it was refused."""
    name, arguments = deed
    try:
        return "told", getattr(response, name)(*arguments)
    except (BadEdit, BadMerge, Refused) as error:
        return "refused", error.reason


def random_form(pick):
    """A right form with names that other such forms have, too."""
    names = list(NAMES)
    for _ in range(pick.randrange(6)):
        one, other = pick.randrange(len(names)), pick.randrange(len(names))
        names[one], names[other] = names[other], names[one]
    return right.form(pick, names)

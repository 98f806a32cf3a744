"""Texts of forms: writes them (f1) and reads them (f2)."""

from formflow.errors import BadLine, BadText
from formflow.reading import parse_expression
from formflow.values import is_name, is_numeral
from formflow.writing import expression_text

MOST_SECTIONS = 4
MOST_FIELDS = 12
MOST_ROWS = 4
MOST_OPTIONS = 5
LONGEST_ANSWER = 20
BETWEEN = "; "
AHEAD_OF_MESSAGE = "; says "


def form_text(form):
    """The text of a form."""
    lines = []
    for section in form:
        lines.append(_section_line(section))
        lines.extend([_field_line(field) for field in section[3]])
    return "".join([line + "\n" for line in lines])


def _section_line(section):
    name, condition, most, _ = section
    parts = ["section " + name]
    if most != 0:
        parts.append(f"repeats {most}")
    return BETWEEN.join(parts + _expression_part("when", condition))


def _field_line(field):
    parts = [f"{field[0]} {field[1]}"]
    if field[0] == "question":
        parts.extend(_kind_parts(field[3]))
        parts.extend(["required"] if field[4] else [])
    else:
        parts.extend(_expression_part("is", field[3]))
    if field[0] == "rule":
        parts.extend(["blocking"] if field[5] else [])
    parts.extend(_expression_part("when", field[2]))
    line = BETWEEN.join(parts)
    return line + AHEAD_OF_MESSAGE + field[4] if field[0] == "rule" else line


def _kind_parts(kind):
    if kind[0] == "integer":
        return ["integer"] + _expression_part("least", kind[1]) + _expression_part("greatest", kind[2])
    if kind[0] in ("choice", "choices"):
        return [kind[0]] + [_option_part(name, condition) for name, condition in kind[1]]
    if kind[0] == "text":
        return [f"text {kind[1]}"]
    return ["truth"]


def _option_part(name, condition):
    return " ".join(["option " + name] + _expression_part("when", condition))


def _expression_part(word, expression):
    """The list of the part of an expression; an empty one if it is not there."""
    return [] if expression is None else [f"{word} {expression_text(expression)}"]


class LineReader:
    """The parts of a line, and how many of them have been read."""

    def __init__(self, number, parts):
        self.number = number
        self.parts = parts
        self.at = 0

    def demand(self, fits):
        """Refuses the line if something in it does not fit."""
        if not fits:
            raise BadLine(self.number)

    def is_over(self):
        return self.at == len(self.parts)

    def take(self, part):
        """Whether the next part is this one; goes over it then."""
        if self.is_over() or self.parts[self.at] != part:
            return False
        self.at += 1
        return True

    def take_behind(self, word):
        """What the next part has behind this word; None if it does not begin with it."""
        if self.is_over() or not self.parts[self.at].startswith(word + " "):
            return None
        self.at += 1
        return self.parts[self.at - 1][len(word) + 1:]


def parse_form(text):
    """The form that a text is; raises BadLine."""
    # Not splitlines: nothing but a newline ends a line.
    lines = text.split("\n")
    heads, fields = [], []
    for number, line in enumerate(lines[:-1], start=1):
        if line.startswith("section "):
            heads.append(_read_section(number, line, len(heads)))
            fields.append([])
        else:
            count = sum([len(row) for row in fields])
            if not heads or count == MOST_FIELDS:
                raise BadLine(number)
            fields[-1].append(_read_field(number, line))
    if lines[-1] != "" or not any(fields):
        raise BadLine(len(lines))
    return tuple([head + (tuple(row),) for head, row in zip(heads, fields)])


def _read_section(number, line, count):
    """Reads the line of a section ahead of which there are count others."""
    reader = LineReader(number, line.split(BETWEEN))
    reader.demand(count < MOST_SECTIONS)
    name = _read_name(reader, "section")
    most = _read_number(reader, "repeats", MOST_ROWS)
    condition = _read_expression(reader, "when")
    reader.demand(reader.is_over())
    return (name, condition, 0 if most is None else most)


def _read_field(number, line):
    if line.startswith("rule "):
        return _read_rule(number, line)
    reader = LineReader(number, line.split(BETWEEN))
    if line.startswith("question "):
        name = _read_name(reader, "question")
        kind = _read_kind(reader)
        required = reader.take("required")
        field = ("question", name, _read_expression(reader, "when"), kind, required)
    else:
        name = _read_name(reader, "formula")
        worth = _read_expression(reader, "is")
        reader.demand(worth is not None)
        field = ("formula", name, _read_expression(reader, "when"), worth)
    reader.demand(reader.is_over())
    return field


def _read_rule(number, line):
    # A message may have parts in it, but nothing ahead of it has a ";".
    head, mark, message = line.partition(AHEAD_OF_MESSAGE)
    reader = LineReader(number, head.split(BETWEEN))
    name = _read_name(reader, "rule")
    worth = _read_expression(reader, "is")
    blocking = reader.take("blocking")
    condition = _read_expression(reader, "when")
    reader.demand(worth is not None and reader.is_over() and mark != "")
    reader.demand(all(" " <= sign <= "~" for sign in message))
    return ("rule", name, condition, worth, message, blocking)


def _read_kind(reader):
    if reader.take("truth"):
        return ("truth",)
    if reader.take("integer"):
        least = _read_expression(reader, "least")
        return ("integer", least, _read_expression(reader, "greatest"))
    for kind in ("choice", "choices"):
        if reader.take(kind):
            return (kind, _read_options(reader))
    longest = _read_number(reader, "text", LONGEST_ANSWER)
    reader.demand(longest is not None)
    return ("text", longest)


def _read_options(reader):
    options = []
    part = reader.take_behind("option")
    while part is not None:
        name, mark, told = part.partition(" when ")
        reader.demand(is_name(name))
        options.append((name, _expression_in(reader, told) if mark else None))
        part = reader.take_behind("option")
    reader.demand(1 <= len(options) <= MOST_OPTIONS)
    return tuple(options)


def _read_name(reader, word):
    name = reader.take_behind(word)
    reader.demand(is_name(name))
    return name


def _read_number(reader, word, greatest):
    """Reads a part with a number from 1 on; None if it is not there."""
    told = reader.take_behind(word)
    if told is None:
        return None
    # Only short ones are made numbers: Python refuses very long ones.
    reader.demand(is_numeral(told) and len(told) <= len(str(greatest)))
    reader.demand(1 <= int(told) <= greatest)
    return int(told)


def _read_expression(reader, word):
    """Reads a part with an expression; None if it is not there."""
    told = reader.take_behind(word)
    return None if told is None else _expression_in(reader, told)


def _expression_in(reader, told):
    try:
        expression = parse_expression(told)
    except BadText:
        raise BadLine(reader.number) from None
    reader.demand(expression_text(expression) == told)
    return expression

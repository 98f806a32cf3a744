"""The parts of forms (c4, c5), and the names that they read (d1)."""

from formflow.expressions import all_parts


def fields_of(form):
    """The tuple of (section, field) for all fields, in order."""
    return tuple((section, field) for section in form for field in section[3])


def section_of(form, name):
    """The first section with this name, or None."""
    for section in form:
        if section[0] == name:
            return section
    return None


def field_of(form, name):
    """The first field with this name, or None."""
    for _, field in fields_of(form):
        if field[1] == name:
            return field
    return None


def names_in(expression):
    """The tuple of the names in an expression, each once, by their first occurrence."""
    found = []
    for part in all_parts(expression):
        name = _name_in_part(part)
        if name is not None and name not in found:
            found.append(name)
    return tuple(found)


def expressions_of(field):
    """The tuple of the expressions that a field has: condition, bounds, those of options, its own."""
    found = [field[2]]
    if field[0] == "question":
        found.extend(_expressions_of_kind(field[3]))
    else:
        found.append(field[3])
    return tuple(expression for expression in found if expression is not None)


def _expressions_of_kind(kind):
    if kind[0] == "integer":
        return [kind[1], kind[2]]
    if kind[0] in ("choice", "choices"):
        return [condition for _, condition in kind[1]]
    return []


def _name_in_part(part):
    if part[0] in ("name", "has"):
        return part[1]
    if part[0] == "ask":
        return part[2]
    return None

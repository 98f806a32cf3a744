"""The issues of forms (i3)."""

from formflow.scopes import kind_at, places_of


def issues(form):
    """The list of the issues of a form, as (name, issue)."""
    found = _repeated_names(form)
    for section, field, scope in places_of(form)[:-1]:
        if field is None:
            found.extend(_issues_of_condition(section[0], section[1], scope))
        else:
            found.extend(_issues_of_condition(field[1], field[2], scope))
            found.extend([(field[1], issue) for issue in _issues_of_content(field, scope)])
    return found


def kind_in(form, section, field, expression):
    """The kind of an expression at the place of a field, told by names, or None.

    Without a field: at the place of the section's condition; without a section:
    behind the last one.
    """
    for place_section, place_field, scope in places_of(form):
        names = _name_of_place(place_section, 0), _name_of_place(place_field, 1)
        if names == (section, field):
            return kind_at(scope, expression)
    return None


def _name_of_place(thing, place):
    return None if thing is None else thing[place]


def _repeated_names(form):
    """An issue for each name that occurs again later."""
    names = []
    for section in form:
        names.append(section[0])
        names.extend([field[1] for field in section[3]])
    return [(name, "twice") for place, name in enumerate(names) if name in names[place + 1:]]


def _fits(expression, kind, scope):
    """Whether an expression has this kind, or is not there."""
    return expression is None or kind_at(scope, expression) == kind


def _issues_of_condition(name, condition, scope):
    return [] if _fits(condition, "truth", scope) else [(name, "condition")]


def _issues_of_content(field, scope):
    """The issues of what a field has besides its condition, without its name."""
    if field[0] == "question":
        return _issues_of_kind(field[3], scope)
    kind = kind_at(scope, field[3])
    if field[0] == "formula":
        return [] if kind is not None else ["formula"]
    return [] if kind == "truth" else ["rule"]


def _issues_of_kind(kind, scope):
    if kind[0] == "integer":
        return ["bound" for bound in kind[1:] if not _fits(bound, "number", scope)]
    if kind[0] not in ("choice", "choices"):
        return []
    names = [name for name, _ in kind[1]]
    twice = ["options"] if len(set(names)) < len(names) else []
    return twice + ["options" for _, condition in kind[1] if not _fits(condition, "truth", scope)]

"""What differs between two editions of a form (n2)."""

from formflow.forms import fields_of, section_of


def changed(form, other):
    """The list of the names of sections and fields of another right form that differ from this one."""
    homes = {field[1]: (section[0], field) for section, field in fields_of(form)}
    names = []
    for section in other:
        if not _is_same_section(section_of(form, section[0]), section):
            names.append(section[0])
        names.extend([field[1] for field in section[3] if homes.get(field[1]) != (section[0], field)])
    return names


def _is_same_section(old, new):
    """Whether a section has the condition and the most of an old one, None if there is none."""
    return old is not None and old[1:3] == new[1:3]

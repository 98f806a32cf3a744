"""Writes expressions (t4)."""

from formflow.expressions import fold
from formflow.levels import IF_LEVEL, MINUS_LEVEL, NOT_LEVEL, SIGNS, STRONGEST
from formflow.values import code_of


def expression_text(expression):
    """The written form of an expression."""
    text, _ = fold(expression, _write_part)
    return text


def _write_part(part, inner):
    """The text of a part and its level; inner has those of its own parts."""
    kind = part[0]
    if kind == "op":
        level, on_left, on_right = SIGNS[part[1]]
        return f"{_operand(inner[0], on_left)} {part[1]} {_operand(inner[1], on_right)}", level
    if kind == "not":
        return "not " + _operand(inner[0], NOT_LEVEL), NOT_LEVEL
    if kind == "minus":
        return "-" + _operand(inner[0], MINUS_LEVEL), MINUS_LEVEL
    if kind == "if":
        return f"if {inner[0][0]} then {inner[1][0]} else {inner[2][0]}", IF_LEVEL
    return _write_strongest(part), STRONGEST


def _operand(written, weakest):
    text, level = written
    return f"({text})" if level < weakest else text


def _write_strongest(part):
    kind = part[0]
    if kind == "row":
        return "row"
    if kind == "name":
        return part[1]
    if kind == "option":
        return f"'{part[1]}'"
    if kind == "ask":
        return f"{part[1]}({part[2]})"
    if kind == "has":
        return f"has({part[1]}, '{part[2]}')"
    # A number or a truth: they are written as the values that they are.
    return code_of(part)

"""The levels of the forms of expressions, from the weakest to the strongest (t2)."""

# The levels of the forms with a word or a sign ahead ..
IF_LEVEL = 0
NOT_LEVEL = 3
MINUS_LEVEL = 8
STRONGEST = 9

# .. and those of the signs between two operands, each with the weakest
# levels that may stand on its left and on its right.
SIGNS = {
    "or": (1, 1, 2),
    "and": (2, 2, 3),
    "=": (4, 5, 5),
    "<>": (4, 5, 5),
    "<": (4, 5, 5),
    "<=": (4, 5, 5),
    ">": (4, 5, 5),
    ">=": (4, 5, 5),
    "+": (5, 5, 6),
    "-": (5, 5, 6),
    "*": (6, 6, 7),
    "??": (7, 7, 8),
}

"""How strongly the operators of expressions bind."""

# The rows of the grammar, from the weakest operator on.
LEVELS = {
    "|": 1, "^": 2, "&": 3,
    "==": 4, "<": 4,
    "<<": 5, ">>": 5,
    "+": 6, "-": 6,
    "*": 7,
}
PICK_LEVEL = 0
TEST_LEVEL = 4
TOP_LEVEL = 7
UNARY_LEVEL = 8
CLOSED_LEVEL = 9

"""Trees to texts."""

from stagecut.shapes import fold_up
from stagecut.signs import CLOSED_LEVEL, LEVELS, PICK_LEVEL, TEST_LEVEL, UNARY_LEVEL


def print_machine(tree):
    """The text of a machine."""
    name, items, stages = tree
    lines = [f"machine {name}"]
    for item in items:
        lines.append(" ".join([str(word) for word in item]) + ";")
    for at, rows in enumerate(stages):
        lines.append(f"at {at}:")
        for row in rows:
            lines.append("  " + print_row(row))
    return "".join([line + "\n" for line in lines])


def print_row(row):
    """The text of a row."""
    word = row[0]
    if word == "let" or word == "guess":
        return f"{word} {row[1]} = {print_expr(row[2])};"
    if word == "set":
        return f"{row[1]} := {print_expr(row[2])}{print_test(row[3])};"
    return f"{row[1]}[{print_expr(row[2])}] := {print_expr(row[3])}{print_test(row[4])};"


def print_test(test):
    """The end of a row that writes, empty if it has no test."""
    return "" if test is None else f" when {print_expr(test)}"


def print_expr(tree):
    """The text of an expression."""
    return fold_up(tree, printed)[0]


def printed(node, sides):
    """The text of a node and how strongly its parts are bound, from those of its parts."""
    kind = node[0]
    if kind == "lit":
        return f"{node[1]}w{node[2]}", CLOSED_LEVEL
    if kind == "name":
        return node[1], CLOSED_LEVEL
    if kind == "op":
        return printed_op(node[1], sides[0], sides[1])
    if kind == "not":
        return "~" + in_brackets(sides[0], UNARY_LEVEL), UNARY_LEVEL
    if kind == "pick":
        test = in_brackets(sides[0], PICK_LEVEL + 1)
        return f"{test} ? {sides[1][0]} : {sides[2][0]}", PICK_LEVEL
    return printed_call(node, [side[0] for side in sides]), CLOSED_LEVEL


def printed_op(sign, one, other):
    """The text and level of an operation with two sides."""
    level = LEVELS[sign]
    left_level = level + 1 if level == TEST_LEVEL else level
    left = in_brackets(one, left_level)
    right = in_brackets(other, level + 1)
    return f"{left} {sign} {right}", level


def printed_call(node, sides):
    """The text of a reading, or of one of the words wide, part and join."""
    if node[0] == "read":
        return f"{node[1]}[{sides[0]}]"
    if node[0] == "join":
        return f"join({sides[0]}, {sides[1]})"
    if node[0] == "wide":
        return f"wide({sides[0]}, {node[2]})"
    return f"part({sides[0]}, {node[2]}, {node[3]})"


def in_brackets(side, level):
    """The text of a part, in brackets if it is bound more weakly than it must be."""
    text, own = side
    return text if own >= level else f"({text})"

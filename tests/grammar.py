"""The grammar of 1.4 as it stands there, to find the first token that cannot stand.

A terminal is ("kind",) or ("kind", text); what else stands in a rule is the name of a rule. Repeated parts have
rules of their own with the name of the rule and a sign behind it.
"""

SIGN_LEVELS = {
    "or": (("|",), "xor"), "xor": (("^",), "and"), "and": (("&",), "test"),
    "shift": (("<<", ">>"), "sum"), "sum": (("+", "-"), "product"), "product": (("*",), "unary"),
}


def sign(text):
    return ("sign", text)


def word(text):
    return ("keyword", text)


NAME = ("name",)
NUMBER = ("number",)


def rules():
    found = {
        "machine": [(word("machine"), NAME, "items", ("stages", 0))],
        "items": [(), ("item", "items")],
        "item": [
            (word("reg"), NAME, NUMBER, sign(";")),
            (word("file"), NAME, NUMBER, NUMBER, sign(";")),
            (word("rom"), NAME, NUMBER, NUMBER, sign(";")),
        ],
        "rows": [(), ("row", "rows")],
        "row": [
            (word("let"), NAME, sign("="), "expr", sign(";")),
            (word("guess"), NAME, sign("="), "expr", sign(";")),
            (NAME, sign(":="), "expr", "when?", sign(";")),
            (NAME, sign("["), "expr", sign("]"), sign(":="), "expr", "when?", sign(";")),
        ],
        "when?": [(), (word("when"), "expr")],
        "expr": [("or", "pick?")],
        "pick?": [(), (sign("?"), "expr", sign(":"), "expr")],
        "test": [("shift", "test?")],
        "test?": [(), (sign("=="), "shift"), (sign("<"), "shift")],
        "unary": [(sign("~"), "unary"), ("primary",)],
        "primary": [
            (("literal",),), (NAME,), (NAME, sign("["), "expr", sign("]")), (sign("("), "expr", sign(")")),
            (word("wide"), sign("("), "expr", sign(","), NUMBER, sign(")")),
            (word("part"), sign("("), "expr", sign(","), NUMBER, sign(","), NUMBER, sign(")")),
            (word("join"), sign("("), "expr", sign(","), "expr", sign(")")),
        ],
    }
    for name, (signs, inner) in SIGN_LEVELS.items():
        found[name] = [(inner, name + "*")]
        found[name + "*"] = [()] + [(sign(text), inner, name + "*") for text in signs]
    return found


RULES = rules()


def ways(symbol):
    """What may stand in the place of a symbol, None for a terminal."""
    if symbol in RULES:
        return RULES[symbol]
    if symbol[0] == "stages":
        at = symbol[1]
        return [(), (word("at"), ("number", at), sign(":"), "rows", ("stages", at + 1))]
    return None


def opened(stacks):
    """All stacks that begin with a terminal, or are empty, that come from these."""
    todo = list(stacks)
    found = set()
    while todo:
        stack = todo.pop()
        inner = ways(stack[0]) if stack else None
        if inner is None:
            found.add(stack)
        else:
            todo.extend(way + stack[1:] for way in inner)
    return found


def first_wrong(found, rule):
    """The first token that cannot stand, None if all can."""
    stacks = opened([(("stages", 0) if rule == "stages" else rule,)])
    for token in found:
        if token[0] == "end":
            return None if () in stacks else token
        taken = [stack[1:] for stack in stacks if stack and stack[0] == token[:len(stack[0])]]
        if not taken:
            return token
        stacks = opened(taken)
    return None

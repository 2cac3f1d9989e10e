"""Texts of machines and expressions to trees."""

from stagecut.reader import Reader
from stagecut.signs import LEVELS, TEST_LEVEL, TOP_LEVEL
from stagecut.tokens import tokens

# How many numbers follow the name of an item.
ITEM_NUMBERS = {"reg": 1, "file": 2, "rom": 2}


def parse(text):
    """The tree of a machine."""
    reader = Reader(tokens(text))
    reader.needs("keyword", "machine")
    name = reader.takes("name")
    items = []
    while reader.seen_kind("keyword") and reader.next_text() in ITEM_NUMBERS:
        items.append(read_item(reader))
    stages = []
    while reader.skips("keyword", "at"):
        if not reader.seen("number", len(stages)):
            reader.fail()
        reader.takes("number")
        reader.needs("sign", ":")
        stages.append(read_rows(reader))
    reader.ends()
    return (name, tuple(items), tuple(stages))


def parse_expr(text):
    """The tree of an expression that is the whole text."""
    reader = Reader(tokens(text))
    tree = read_expr(reader)
    reader.ends()
    return tree


def read_item(reader):
    """A register, file or rom."""
    word = reader.takes("keyword")
    name = reader.takes("name")
    numbers = [reader.takes("number") for _ in range(ITEM_NUMBERS[word])]
    reader.needs("sign", ";")
    return (word, name, *numbers)


def read_rows(reader):
    """The rows of a stage."""
    rows = []
    while reader.seen_kind("name") or reader.seen("keyword", "let") or reader.seen("keyword", "guess"):
        rows.append(read_row(reader))
        reader.needs("sign", ";")
    return tuple(rows)


def read_row(reader):
    """A row without the sign at its end."""
    if reader.seen_kind("keyword"):
        word = reader.takes("keyword")
        name = reader.takes("name")
        reader.needs("sign", "=")
        return (word, name, read_expr(reader))
    name = reader.takes("name")
    if reader.skips("sign", "["):
        address = read_expr(reader)
        reader.needs("sign", "]")
        reader.needs("sign", ":=")
        worth = read_expr(reader)
        return ("put", name, address, worth, read_test(reader))
    reader.needs("sign", ":=")
    worth = read_expr(reader)
    return ("set", name, worth, read_test(reader))


def read_test(reader):
    """The test of a row that writes, None if there is none."""
    if reader.skips("keyword", "when"):
        return read_expr(reader)
    return None


def read_expr(reader):
    """An expression: operators, and picks between them."""
    heads = []
    tree = read_op(reader, 1)
    while reader.skips("sign", "?"):
        heads.append((tree, read_expr(reader)))
        reader.needs("sign", ":")
        tree = read_op(reader, 1)
    for test, one in heads[::-1]:
        tree = ("pick", test, one, tree)
    return tree


def read_op(reader, level):
    """Operators that bind at least as strongly as a level."""
    tree = read_unary(reader)
    most = TOP_LEVEL
    while reader.seen_kind("sign") and level <= LEVELS.get(reader.next_text(), 0) <= most:
        sign = reader.takes("sign")
        own = LEVELS[sign]
        tree = ("op", sign, tree, read_op(reader, own + 1))
        # Tests are not grouped: behind one, a second one cannot stand.
        most = own - 1 if own == TEST_LEVEL else own
    return tree


def read_unary(reader):
    """A primary with the signs that turn it round."""
    turns = 0
    while reader.skips("sign", "~"):
        turns += 1
    tree = read_primary(reader)
    for _ in range(turns):
        tree = ("not", tree)
    return tree


def read_primary(reader):
    """A literal, a name, a reading, brackets, or one of the words wide, part and join."""
    if reader.seen_kind("literal"):
        worth, width = reader.takes("literal")
        return ("lit", worth, width)
    if reader.seen_kind("name"):
        return read_named(reader)
    if reader.skips("sign", "("):
        tree = read_expr(reader)
        reader.needs("sign", ")")
        return tree
    return read_call(reader)


def read_named(reader):
    """A name, or a reading of it."""
    name = reader.takes("name")
    if not reader.skips("sign", "["):
        return ("name", name)
    address = read_expr(reader)
    reader.needs("sign", "]")
    return ("read", name, address)


def read_call(reader):
    """One of the words wide, part and join, with what stands in its brackets."""
    if not (reader.seen("keyword", "wide") or reader.seen("keyword", "part") or reader.seen("keyword", "join")):
        reader.fail()
    word = reader.takes("keyword")
    reader.needs("sign", "(")
    inner = [read_expr(reader)]
    reader.needs("sign", ",")
    if word == "join":
        inner.append(read_expr(reader))
    else:
        inner.append(reader.takes("number"))
    if word == "part":
        reader.needs("sign", ",")
        inner.append(reader.takes("number"))
    reader.needs("sign", ")")
    return (word, *inner)

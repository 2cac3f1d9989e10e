"""Forms of words, codes that are written in them, and their words."""

from stagecut.digits import number_text
from stagecut.errors import BadCode
from stagecut.lines import text_of
from stagecut.reader import Reader
from stagecut.tokens import tokens
from stagecut.words import MOST_WIDTH, mask


def parse_forms(text):
    """The forms that a text tells."""
    reader = Reader(tokens(text))
    forms = []
    while not reader.seen_kind("end"):
        name = reader.takes("name")
        reader.needs("sign", "=")
        fields = [read_field(reader)]
        while reader.skips("sign", ","):
            fields.append(read_field(reader))
        reader.needs("sign", ";")
        forms.append((name, tuple(fields)))
    return tuple(forms)


def read_field(reader):
    """A literal, or a name with a width."""
    if reader.seen_kind("literal"):
        return ("lit", *reader.takes("literal"))
    name = reader.takes("name")
    reader.needs("sign", ":")
    if reader.seen_kind("number") and not 1 <= reader.next_text() <= MOST_WIDTH:
        reader.fail()
    return ("field", name, reader.takes("number"))


def parse_code(text):
    """The statements that a text tells."""
    reader = Reader(tokens(text))
    statements = []
    while not reader.seen_kind("end"):
        statements.append(read_statement(reader))
    return tuple(statements)


def read_statement(reader):
    """A statement: labels, a name and arguments."""
    labels = []
    name = reader.takes("name")
    while reader.skips("sign", ":"):
        labels.append(name)
        name = reader.takes("name")
    arguments = []
    while reader.seen_kind("name") or reader.seen_kind("number"):
        arguments.append(reader.takes("name" if reader.seen_kind("name") else "number"))
    reader.needs("sign", ";")
    return (tuple(labels), name, tuple(arguments))


def assemble(forms, statements, bits, width):
    """The words of a rom with so many bits of addresses and this width."""
    labels = places_of_labels(statements)
    words = [assembled(forms, labels, at + 1, statement, width) for at, statement in enumerate(statements)]
    many = 1 << bits
    if len(words) > many:
        raise BadCode(many + 1, "long")
    return tuple(words + [0] * (many - len(words)))


def places_of_labels(statements):
    """The numbers of the statements of labels, from 0."""
    found = {}
    for at, (labels, _, _) in enumerate(statements):
        for label in labels:
            if label in found:
                raise BadCode(at + 1, "twice")
            found[label] = at
    return found


def assembled(forms, labels, number, statement, width):
    """The word of the statement with a number, counted from 1."""
    _, name, arguments = statement
    known = [fields for own, fields in forms if own == name]
    if not known:
        raise BadCode(number, "form")
    fields = known[0]
    if form_width(fields) != width:
        raise BadCode(number, "width")
    if len(arguments) != len(open_fields(fields)):
        raise BadCode(number, "count")
    worths = []
    for argument, field in zip(arguments, open_fields(fields)):
        worth = labels.get(argument, None) if isinstance(argument, str) else argument
        if worth is None:
            raise BadCode(number, "label")
        if worth > mask(field[2]):
            raise BadCode(number, "size")
        worths.append(worth)
    return joined(fields, worths)


def form_width(fields):
    """The width of all fields together."""
    return sum([field[2] for field in fields])


def open_fields(fields):
    """The fields that come from arguments."""
    return [field for field in fields if field[0] == "field"]


def joined(fields, worths):
    """The word of fields one behind the other, those that are no literals having these values."""
    word = 0
    given = 0
    for field in fields:
        worth = field[1]
        if field[0] == "field":
            worth = worths[given]
            given += 1
        word = (word << field[2]) | worth
    return word


def listed(forms, words, width):
    """For each word the statement of the first form of this width that has its literals."""
    fitting = [form for form in forms if form_width(form[1]) == width]
    return tuple([listed_word(fitting, word) for word in words])


def listed_word(forms, word):
    """The statement of the first of these forms whose literals a word has; without a name if there is none."""
    for name, fields in forms:
        parts = parts_of(fields, word)
        literals = [(part, field[1]) for part, field in zip(parts, fields) if field[0] == "lit"]
        if all([part == worth for part, worth in literals]):
            return ((), name, tuple([part for part, field in zip(parts, fields) if field[0] == "field"]))
    return ((), "", (word,))


def parts_of(fields, word):
    """The parts of a word that fields have, in their order."""
    found = []
    for field in reversed(fields):
        found.append(word & mask(field[2]))
        word >>= field[2]
    return found[::-1]


def print_code(statements):
    """The text of statements."""
    return text_of([statement_line(statement) for statement in statements])


def statement_line(statement):
    """The line of a statement."""
    labels, name, arguments = statement
    told = [argument if isinstance(argument, str) else number_text(argument) for argument in arguments]
    return " ".join([*[label + ":" for label in labels], name, *told]) + ";"

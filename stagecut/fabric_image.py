"""Fabrics as rows of bytes."""

from stagecut.bits import word_of
from stagecut.errors import BadImage
from stagecut.grid import DIRECTIONS, is_on_grid, neighbour
from stagecut.numerals import NumberReader, number_bytes
from stagecut.origins import OWN, Origins

MOST_SOURCES = 6
# The number that stands for no first value.
NO_FIRST = 2


def write_fabric(fabric):
    """The row of bytes of a fabric."""
    width, height, tiles, outs = fabric
    numbers = [width, height, len(outs), *outs]
    for sources, bits, first, wires in tiles:
        numbers.extend(source_numbers(sources))
        numbers.append(word_of(bits))
        numbers.append(NO_FIRST if first is None else first)
        for led in wires:
            numbers.extend(source_numbers(led))
    return number_bytes(numbers)


def source_numbers(sources):
    """How many sources there are, and the numbers of each."""
    found = [len(sources)]
    for source in sources:
        found.extend([0] if source == OWN else [1 + source[1], source[2]])
    return found


def read_fabric(row):
    """The fabric of a row of bytes."""
    reader = NumberReader(row)
    width, height, many = [reader.next_number() for _ in range(3)]
    outs = tuple(reader.next_numbers(many))
    tiles = []
    for _ in range(width * height):
        tiles.append(read_tile(reader))
    fabric = (width, height, tuple(tiles), outs)
    if not reader.is_done() or not tiles or not is_fabric(fabric):
        raise BadImage()
    return fabric


def read_tile(reader):
    """The next tile."""
    sources = read_sources(reader)
    bits = reader.next_number()
    first = reader.next_number()
    if len(sources) > MOST_SOURCES or first > NO_FIRST:
        raise BadImage()
    many = 1 << len(sources)
    if bits >= 1 << many:
        raise BadImage()
    wires = tuple([read_sources(reader) for _ in DIRECTIONS])
    return (sources, tuple([(bits >> at) & 1 for at in range(many)]), None if first == NO_FIRST else first, wires)


def read_sources(reader):
    """The next sources, behind how many they are."""
    found = []
    for _ in range(reader.next_number()):
        number = reader.next_number()
        if number > len(DIRECTIONS):
            raise BadImage()
        found.append(OWN if number == 0 else ("in", number - 1, reader.next_number()))
    return tuple(found)


def is_fabric(fabric):
    """True if the wires of a fabric lead to neighbours, and its sources come from tiles; and told tiles are there."""
    width, height, tiles, outs = fabric
    if not all([number < len(tiles) for number in outs]):
        return False
    origins = Origins(width, height, tiles)
    for number, (sources, _, _, wires) in enumerate(tiles):
        for direction, led in enumerate(wires):
            spot = neighbour((number % width, number // width), direction)
            if led and not is_on_grid(spot, width, height):
                return False
        for source in [*sources, *[source for led in wires for source in led]]:
            if origins.origin(number, source) is None:
                return False
    return True

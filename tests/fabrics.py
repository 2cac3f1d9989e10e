"""Cells, ways and fabrics made by chance, and fabrics run word by word."""

import random

STEPS = ((1, 0), (0, 1), (-1, 0), (0, -1))


def made_packed(seed, many, most=4):
    """Cells that can be run, and which of them are told; some read themselves, nothing, or one cell twice."""
    chance = random.Random(seed)
    firsts = [chance.choice((None, None, 0, 1)) for _ in range(many)]
    order = list(range(many))
    chance.shuffle(order)
    cells = [None] * many
    for place, at in enumerate(order):
        ahead = [other for other in range(many) if firsts[other] is not None]
        if firsts[at] is None:
            ahead += order[:place]
        else:
            ahead = list(range(many))
        reads = tuple(chance.choice(ahead) for _ in range(chance.randint(0, most))) if ahead else ()
        cells[at] = (reads, tuple(chance.randrange(2) for _ in range(2 ** len(reads))), firsts[at])
    outs = tuple(chance.randrange(many) for _ in range(chance.randint(0, 4))) if many else ()
    return tuple(cells), outs


def made_spots(seed, many, width, height):
    return tuple(random.Random(seed).sample([(x, y) for x in range(width) for y in range(height)], many))


def readers(cells, at):
    return [reader for reader, cell in enumerate(cells) if at in cell[0]]


def wandering_ways(seed, cells, spots, width, height):
    """Ways that are right, but far from short."""
    chance = random.Random(seed)
    ways = []
    for at, spot in enumerate(spots):
        edges = []
        come_to = [spot]
        for end in [spots[reader] for reader in readers(cells, at)]:
            while end not in come_to:
                # A walk from a spot that was come to over others that were not.
                path = [chance.choice(come_to)]
                while path[-1] != end:
                    x, y = path[-1]
                    near = [(x + dx, y + dy) for dx, dy in STEPS if 0 <= x + dx < width and 0 <= y + dy < height]
                    near = [other for other in near if other not in come_to and other not in path]
                    if not near:
                        break
                    path.append(chance.choice(near))
                if path[-1] == end:
                    edges += list(zip(path, path[1:]))
                    come_to += path[1:]
        ways.append(tuple(edges))
    return tuple(ways)


def slow_origin(fabric, number, source):
    """The tile whose own value a source is, and over how many wires."""
    width, _, tiles, _ = fabric
    wires = 0
    while source != ("own",):
        _, direction, wire = source
        dx, dy = STEPS[direction]
        number += dx + dy * width
        source = tiles[number][3][(direction + 2) % 4][wire]
        wires += 1
    return number, wires


def slow_fabric(fabric, cycles):
    """A fabric run word by word: tables are worked out until nothing changes."""
    tiles = fabric[2]
    reads = [[slow_origin(fabric, number, source)[0] for source in tile[0]] for number, tile in enumerate(tiles)]
    worths = [tile[2] or 0 for tile in tiles]

    def tables():
        return [tile[1][sum(worths[read] * 2 ** at for at, read in enumerate(reads[number]))]
                for number, tile in enumerate(tiles)]

    told = []
    for _ in range(cycles):
        for _ in tiles:
            worths = [table if tile[2] is None else worth for worth, table, tile in zip(worths, tables(), tiles)]
        told.append(tuple(worths[number] for number in fabric[3]))
        worths = [worth if tile[2] is None else table for worth, table, tile in zip(worths, tables(), tiles)]
    return tuple(told)


def slow_slowest(fabric):
    """The time of the slowest table, by going back from each one."""
    tiles = fabric[2]

    def there(number):
        return 0 if tiles[number][2] is not None else settled(number)

    def settled(number):
        times = []
        for source in tiles[number][0]:
            begin, wires = slow_origin(fabric, number, source)
            times.append(there(begin) + wires)
        return 2 + max(times, default=0)

    return max(settled(number) for number in range(len(tiles)))

"""First spots of cells, such that those are near that hang together.

A bundle is a cell with those that read it.
"""

# How often all cells are brought to where their bundles would have them.
ROUNDS = 40
# How much finer than spots the places are that are worked out.
SCALE = 1024


def first_spots(bundles, width, height):
    """Different spots for cells, in a part of the grid that is as square as it can be."""
    many = len(bundles)
    columns = 1
    while columns < width and columns * min(columns, height) < many:
        columns += 1
    rows = max(1, (many + columns - 1) // columns)
    spots = [None] * many
    for at, cell in enumerate(linked_order(bundles)):
        spots[cell] = (at // rows, at % rows)
    links = [bundle for bundle in bundles if len(bundle) > 1]
    for _ in range(ROUNDS):
        spots = laid_out(wished_places(links, spots), rows)
    return spots


def linked_order(bundles):
    """All cells, each near to those with which it has a bundle."""
    linked = [[] for _ in bundles]
    for bundle in bundles:
        for cell in bundle[1:]:
            linked[bundle[0]].append(cell)
            linked[cell].append(bundle[0])
    order = {}
    for first in range(len(bundles)):
        todo = [first]
        while todo:
            cell = todo.pop()
            if cell not in order:
                order[cell] = True
                todo.extend([other for other in linked[cell] if other not in order])
    return list(order)


def wished_places(bundles, spots):
    """For each cell the middle of the middles of its bundles, of which those count more that have fewer cells."""
    sums = [[0, 0, 0] for _ in spots]
    for bundle in bundles:
        weight = 1 + SCALE // len(bundle)
        x, y = [SCALE * sum([spots[cell][at] for cell in bundle]) // len(bundle) for at in range(2)]
        for cell in bundle:
            own = sums[cell]
            own[0] += weight * x
            own[1] += weight * y
            own[2] += weight
    found = []
    for (x, y, weight), spot in zip(sums, spots):
        found.append((x // weight, y // weight) if weight else (SCALE * spot[0], SCALE * spot[1]))
    return found


def laid_out(places, rows):
    """Different spots in so many rows for cells that should be at these places, which may be too near."""
    cells = sorted(list(range(len(places))), key=lambda cell: places[cell][0])
    spots = [None] * len(places)
    for begin in range(0, len(cells), rows):
        column = sorted(cells[begin:begin + rows], key=lambda cell: places[cell][1])
        for row, cell in enumerate(column):
            spots[cell] = (begin // rows, row)
    return spots

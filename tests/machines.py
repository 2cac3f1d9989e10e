"""Machines and circuits made by chance, always the same for the same seed."""

import random

OPS = ("+", "-", "*", "&", "|", "^")


class Maker:
    """Makes machines that are checked without an error."""

    def __init__(self, seed, stages=None, guesses=2, depth=3, rows=3):
        self.chance = random.Random(seed)
        self.stages = stages or self.chance.randint(1, 8)
        self.guesses = guesses
        self.depth = depth
        self.rows = rows
        self.regs = {}
        self.files = {}
        self.roms = {}
        self.lets = {}
        self.written = {}
        self.guessed = {}

    def tree(self):
        chance = self.chance
        self.make_items()
        stages = []
        for stage in range(self.stages):
            rows = [("let", None)] * chance.randint(0, self.rows)
            rows += [("guess", name) for name in self.guessed if self.guessed[name] == stage]
            rows += [("write", name) for name in self.written if self.written[name] == stage]
            chance.shuffle(rows)
            stages.append(tuple(self.row(stage, word, name) for word, name in rows))
        items = [("reg", name, width) for name, width in self.regs.items()]
        items += [("file", name, *sizes) for name, sizes in self.files.items()]
        items += [("rom", name, *sizes) for name, sizes in self.roms.items()]
        chance.shuffle(items)
        return ("made", tuple(items), tuple(stages))

    def make_items(self):
        chance = self.chance
        for at in range(chance.randint(1, 4)):
            self.regs[f"r{at}"] = self.width()
        for at in range(chance.randint(0, 2)):
            self.files[f"f{at}"] = (chance.randint(1, 2), self.width())
        for at in range(chance.randint(0, 2)):
            self.roms[f"c{at}"] = (chance.randint(1, 3), self.width())
        last = 0
        for name in self.regs:
            if self.stages > 1 and len(self.guessed) < self.guesses and chance.random() < 0.5:
                self.guessed[name] = chance.randrange(self.stages - 1)
                self.written[name] = chance.randint(self.guessed[name] + 1, self.stages - 1)
                last = max(last, self.written[name])
        for name in list(self.regs) + list(self.files):
            if name not in self.guessed and chance.random() < 0.85:
                self.written[name] = chance.randint(last, self.stages - 1)

    def width(self):
        return self.chance.choice((1, 1, 2, 2, 3, 4, 8, 32))

    def row(self, stage, word, name):
        chance = self.chance
        if word == "let":
            name = f"x{len(self.lets)}"
            width = self.width()
            row = ("let", name, self.expr(stage, width))
            self.lets[name] = width
            return row
        if word == "guess":
            return ("guess", name, self.expr(stage, self.regs[name]))
        test = self.expr(stage, 1) if name not in self.guessed and chance.random() < 0.6 else None
        if name in self.regs:
            return ("set", name, self.expr(stage, self.regs[name]), test)
        bits, width = self.files[name]
        return ("put", name, self.expr(stage, bits), self.expr(stage, width), test)

    def can_read(self, name, stage):
        bounds = [table[name] for table in (self.written, self.guessed) if name in table]
        return all(stage <= bound for bound in bounds)

    def expr(self, stage, width, depth=None):
        depth = self.depth if depth is None else depth
        if depth == 0 or self.chance.random() < 0.25:
            return self.leaf(stage, width)
        return self.node(stage, width, depth - 1)

    def leaf(self, stage, width):
        found = [("name", name) for name in self.lets if self.lets[name] == width]
        found += [("name", name) for name in self.regs if self.regs[name] == width and self.can_read(name, stage)]
        if found and self.chance.random() < 0.85:
            return self.chance.choice(found)
        return ("lit", self.chance.choice((0, 1, (1 << width) - 1, self.chance.getrandbits(width))), width)

    def node(self, stage, width, depth):
        chance = self.chance
        kinds = ["not", "op", "op", "op", "pick", "wide", "part", "shift", "read"]
        if width > 1:
            kinds.append("join")
        if width == 1:
            kinds += ["test", "test"]
        kind = chance.choice(kinds)
        if kind == "read":
            return self.reading(stage, width, depth)
        if kind == "not":
            return ("not", self.expr(stage, width, depth))
        if kind == "op":
            sign = chance.choice(OPS)
            return ("op", sign, self.expr(stage, width, depth), self.expr(stage, width, depth))
        if kind == "shift":
            sign = chance.choice(("<<", ">>"))
            return ("op", sign, self.expr(stage, width, depth), self.expr(stage, self.width(), depth))
        if kind == "test":
            inner = self.width()
            sign = chance.choice(("==", "<"))
            return ("op", sign, self.expr(stage, inner, depth), self.expr(stage, inner, depth))
        if kind == "pick":
            test = self.expr(stage, 1, depth)
            return ("pick", test, self.expr(stage, width, depth), self.expr(stage, width, depth))
        if kind == "wide":
            return ("wide", self.expr(stage, self.width(), depth), width)
        if kind == "join":
            high = chance.randint(1, width - 1)
            return ("join", self.expr(stage, high, depth), self.expr(stage, width - high, depth))
        low = chance.randint(0, 32 - width)
        inner = chance.randint(low + width, 32)
        return ("part", self.expr(stage, inner, depth), low, low + width - 1)

    def reading(self, stage, width, depth):
        found = [(name, *sizes) for name, sizes in self.roms.items()]
        found += [(name, *sizes) for name, sizes in self.files.items() if self.can_read(name, stage)]
        if not found:
            return self.leaf(stage, width)
        name, bits, own = self.chance.choice(found)
        tree = ("read", name, self.expr(stage, bits, depth))
        return tree if own == width else ("wide", tree, width)


def made_machine(seed, **told):
    """The tree of a machine."""
    return Maker(seed, **told).tree()


def made_roms(seed, plan):
    """Words for the roms of a plan."""
    chance = random.Random(seed)
    return tuple(
        tuple(chance.getrandbits(width) for _ in range(1 << bits))
        for _, bits, width, is_rom in plan[2] if is_rom
    )


def made_state(seed, plan):
    """Any state of a plan."""
    chance = random.Random(seed)
    regs = tuple(chance.getrandbits(width) for _, width in plan[1])
    files = tuple(tuple(chance.getrandbits(width) for _ in range(1 << bits)) for _, bits, width, _ in plan[2])
    return (regs, files)


class CircuitMaker:
    """Makes circuits."""

    def __init__(self, seed, rows=25):
        self.chance = random.Random(seed)
        self.many = rows
        self.rows = []
        self.widths = []

    def circuit(self):
        chance = self.chance
        self.registers = []
        for _ in range(chance.randint(0, 5)):
            width = self.width()
            self.registers.append((width, chance.choice((0, chance.getrandbits(width)))))
        self.memories = [(chance.randint(1, 2), self.width()) for _ in range(chance.randint(0, 3))]
        for at, (width, _) in enumerate(self.registers):
            self.keep(("reg", at), width)
        for _ in range(self.many):
            self.keep(*self.row())
        nexts = tuple(self.next_row(at, width) for at, (width, _) in enumerate(self.registers))
        stores = tuple(self.store() for _ in range(chance.randint(0, 3))) if self.memories else ()
        outs = tuple(chance.randrange(len(self.rows)) for _ in range(chance.randint(0, 3)))
        return (tuple(self.registers), tuple(self.memories), tuple(self.rows), nexts, stores, outs)

    def width(self):
        return self.chance.choice((1, 1, 2, 2, 3, 5, 32))

    def keep(self, row, width):
        self.rows.append(row)
        self.widths.append(width)
        return len(self.rows) - 1

    def next_row(self, at, width):
        """A next row, which often is one that is not needed."""
        way = self.chance.random()
        if way < 0.2:
            return at
        if way < 0.4:
            return self.keep(("lit", self.registers[at][1], width), width)
        return self.of_width(width)

    def of_width(self, width):
        """A row with a width."""
        found = [at for at, own in enumerate(self.widths) if own == width]
        if found and self.chance.random() < 0.9:
            return self.chance.choice(found)
        return self.keep(("lit", self.chance.choice((0, 1, (1 << width) - 1)), width), width)

    def store(self):
        memory = self.chance.randrange(len(self.memories))
        bits, width = self.memories[memory]
        return (memory, self.of_width(bits), self.of_width(width), self.of_width(1))

    def row(self):
        """A row and its width."""
        chance = self.chance
        width = self.width()
        kind = chance.choice(("lit", "reg", "look", "not", "op", "op", "op", "test", "shift", "pick",
                              "wide", "part", "join", "twice"))
        if kind == "reg" and self.registers:
            at = chance.randrange(len(self.registers))
            return ("reg", at), self.registers[at][0]
        if kind == "look" and self.memories:
            at = chance.randrange(len(self.memories))
            return ("look", at, self.of_width(self.memories[at][0])), self.memories[at][1]
        if kind == "not":
            return ("not", self.of_width(width)), width
        if kind == "op":
            return ("op", chance.choice(OPS), self.of_width(width), self.of_width(width)), width
        if kind == "test":
            return ("op", chance.choice(("==", "<")), self.of_width(width), self.of_width(width)), 1
        if kind == "shift":
            sign = chance.choice(("<<", ">>"))
            return ("op", sign, self.of_width(width), self.of_width(self.width())), width
        if kind == "pick":
            return ("pick", self.of_width(1), self.of_width(width), self.of_width(width)), width
        if kind == "wide":
            return ("wide", self.of_width(self.width()), width), width
        if kind == "part":
            low = chance.randrange(width)
            high = chance.randrange(low, width)
            return ("part", self.of_width(width), low, high), high - low + 1
        if kind == "join" and width < 32:
            other = chance.randint(1, 8)
            return ("join", self.of_width(width), self.of_width(other)), width + other
        if kind == "twice" and self.rows:
            at = chance.randrange(len(self.rows))
            return self.rows[at], self.widths[at]
        return ("lit", chance.getrandbits(width), width), width


def made_circuit(seed, **told):
    """A circuit."""
    return CircuitMaker(seed, **told).circuit()


def made_contents(seed, circuit):
    """Contents for the memories of a circuit."""
    chance = random.Random(seed)
    return tuple(
        tuple(chance.getrandbits(width) for _ in range(1 << bits)) for bits, width in circuit[1]
    )


def made_net(seed, latches=None, ands=20):
    """A net, with ands of the constant, of one node twice and that stand twice among others."""
    chance = random.Random(seed)
    latches = chance.randint(0, 5) if latches is None else latches
    firsts = tuple(chance.randint(0, 1) for _ in range(latches))
    found = []
    for at in range(ands if latches else min(ands, 3)):
        top = 2 * (1 + latches + at)
        if found and chance.random() < 0.1:
            one, other = chance.choice(found)
            found.append((other, one))
        else:
            # Mostly nodes that are not far, so that nets are deep.
            low = 0 if chance.random() < 0.5 else max(0, top - 12)
            found.append((chance.randrange(low, top), chance.randrange(low, top)))
    top = 2 * (1 + latches + len(found))
    nexts = tuple(chance.randrange(top) for _ in firsts)
    return (firsts, tuple(found), nexts, tuple(chance.randrange(top) for _ in range(chance.randint(0, 4))))

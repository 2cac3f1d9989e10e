"""Checks of machines, and the plans that they are."""

from stagecut.cores import guessed_in, plan_rows, readings, written_in
from stagecut.scope import Scope
from stagecut.shapes import PARTS, cut_off, fold_up, with_parts
from stagecut.words import MOST_BITS, MOST_WIDTH, fitted_width

MOST_STAGES = 8


def check(tree):
    """The plan of a machine."""
    scope = Scope()
    items, stages = tree[1:]
    check_items(scope, items)
    if not 1 <= len(stages) <= MOST_STAGES:
        scope.unfit("size")
    for stage, rows in enumerate(stages):
        for index, row in enumerate(rows):
            scope.stage = stage
            scope.index = index
            check_row(scope, row)
    plan = scope.whole_plan(len(stages))
    check_stages(scope, plan)
    return plan


def width_of(plan, core):
    """The width of a core of a plan."""
    return fold_up(core, lambda node, sides: node_width(plan, node, sides))


def node_width(plan, node, sides):
    """The width of a node of a core, from those of its parts."""
    kind = node[0]
    if kind == "lit":
        return node[2]
    if kind == "reg":
        return plan[1][node[1]][1]
    if kind == "let":
        return plan[3][node[1]][1]
    if kind == "read":
        return plan[2][node[1]][2]
    return fitted_width(node, sides)


def check_items(scope, items):
    """Takes the items into the scope, whose place is then behind them."""
    for index, item in enumerate(items):
        scope.index = index
        check_item(scope, item)
    scope.index = len(items)


def check_item(scope, item):
    """Takes an item into the scope."""
    word, name = item[:2]
    many = len(scope.regs) if word == "reg" else len(scope.files)
    scope.name_new(name, word, many)
    if not 1 <= item[-1] <= MOST_WIDTH:
        scope.unfit("size")
    if word == "reg":
        scope.regs.append((name, item[2]))
        return
    if not 1 <= item[2] <= MOST_BITS:
        scope.unfit("size")
    scope.files.append((name, item[2], item[3], word == "rom"))


def check_row(scope, row):
    """Takes a row into the scope."""
    if row[0] == "let":
        check_let(scope, row)
    elif row[0] == "guess":
        check_guess(scope, row)
    elif row[0] == "set":
        check_set(scope, row)
    else:
        check_put(scope, row)


def check_let(scope, row):
    """Takes a let into the scope; its name stands for nothing in its own expression."""
    name = row[1]
    scope.must_be_new(name)
    core, width = checked(scope, row[2])
    number = len(scope.lets)
    scope.name_new(name, "let", number)
    scope.lets.append((name, width, scope.stage, core))
    scope.row_done("let", number)


def check_guess(scope, row):
    """Takes a guess into the scope."""
    number = scope.named(row[1], ("reg",))[1]
    if number in [other[0] for other in scope.guesses]:
        scope.unfit("second")
    core = checked_to(scope, row[2], scope.regs[number][1])
    scope.row_done("guess", len(scope.guesses))
    scope.guesses.append((number, scope.stage, core))


def check_set(scope, row):
    """Takes a row that writes a register into the scope."""
    number = scope.named(row[1], ("reg",))[1]
    check_first(scope, "set", number)
    core = checked_to(scope, row[2], scope.regs[number][1])
    keep_write(scope, "set", number, (None, core, checked_test(scope, row[3])))


def check_put(scope, row):
    """Takes a row that writes a file into the scope."""
    number = scope.named(row[1], ("file",))[1]
    check_first(scope, "put", number)
    address = checked_to(scope, row[2], scope.files[number][1])
    core = checked_to(scope, row[3], scope.files[number][2])
    keep_write(scope, "put", number, (address, core, checked_test(scope, row[4])))


def check_first(scope, word, number):
    """Makes sure that nothing writes the register or file so far."""
    if (word, number) in [other[:2] for other in scope.writes]:
        scope.unfit("second")


def keep_write(scope, word, number, cores):
    """Keeps a row that writes."""
    scope.row_done("write", len(scope.writes))
    scope.writes.append((word, number, scope.stage, *cores))


def checked_test(scope, test):
    """The core of a test, None if there is none."""
    return None if test is None else checked_to(scope, test, 1)


def checked_to(scope, tree, width):
    """The core of an expression that must have a width."""
    core, own = checked(scope, tree)
    if own != width:
        scope.unfit("width")
    return core


def checked(scope, tree):
    """The core of an expression and its width."""
    done = []
    for task, node in tasks_of(tree):
        if task == "name":
            scope.named(node[1], ("file", "rom"))
        elif task == "test":
            if done[-1][1] != 1:
                scope.unfit("width")
        else:
            sides = cut_off(done, len(PARTS[node[0]]))
            done.append(checked_node(scope, node, sides))
    return done[0]


def tasks_of(tree):
    """What is to be looked at in an expression, in order: ("name", reading), ("test", pick) and ("node", tree)."""
    found = []
    todo = [("open", tree)]
    while todo:
        task, node = todo.pop()
        if task != "open":
            found.append((task, node))
            continue
        if node[0] == "read":
            found.append(("name", node))
        opened = [("open", node[at]) for at in PARTS[node[0]]]
        if node[0] == "pick":
            opened.insert(1, ("test", node))
        opened.append(("node", node))
        todo.extend(opened[::-1])
    return found


def checked_node(scope, node, sides):
    """The core of a node and its width, from those of its parts."""
    kind = node[0]
    if kind == "lit":
        return node, node[2]
    if kind == "name":
        return checked_name(scope, node[1])
    cores = [side[0] for side in sides]
    if kind == "read":
        number = scope.named(node[1], ("file", "rom"))[1]
        if sides[0][1] != scope.files[number][1]:
            scope.unfit("width")
        return ("read", number, cores[0]), scope.files[number][2]
    width = fitted_width(node, [side[1] for side in sides])
    if width == 0:
        scope.unfit("width")
    return with_parts(node, cores), width


def checked_name(scope, name):
    """The core of a name and its width."""
    kind, number = scope.named(name, ("reg", "let"))
    width = scope.regs[number][1] if kind == "reg" else scope.lets[number][1]
    return (kind, number), width


def check_stages(scope, plan):
    """Makes sure that rows stand in the stages in which they can."""
    cores = {row[:2]: row[3] for row in plan_rows(plan)}
    last = last_guessed_write(plan)
    for stage, index, word, number in scope.rows:
        scope.stage = stage
        scope.index = index
        for core in cores[(word, number)]:
            check_readings(scope, plan, core)
        if word == "guess" and not is_guess_kept(plan, plan[5][number]):
            scope.unfit("guess")
        if word == "write" and stage < last and not is_guessed_write(plan, plan[4][number]):
            scope.unfit("early")


def check_readings(scope, plan, core):
    """Makes sure that a core reads nothing behind the stages in which it is written and guessed."""
    for kind, number in readings(core):
        if kind == "reg":
            bounds = (written_in(plan, "set", number), guessed_in(plan, number))
        else:
            bounds = (written_in(plan, "put", number),)
        if any([bound is not None and scope.stage > bound for bound in bounds]):
            scope.unfit("late")


def is_guess_kept(plan, guess):
    """True if a guessed register is written without a test in a later stage."""
    for row in plan[4]:
        if row[0] == "set" and row[1] == guess[0]:
            return row[5] is None and row[2] > guess[1]
    return False


def is_guessed_write(plan, row):
    """True if a row that writes writes a guessed register."""
    return row[0] == "set" and guessed_in(plan, row[1]) is not None


def last_guessed_write(plan):
    """The last stage in which a guessed register is written, 0 if there is none."""
    return max([row[2] for row in plan[4] if is_guessed_write(plan, row)], default=0)

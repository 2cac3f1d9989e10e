"""The form of the package: the interface stands where it is told, and some of the rules of the language."""

import ast
import builtins
import inspect
import importlib
import pathlib
import re
import unittest

ROOT = pathlib.Path(__file__).resolve().parent.parent
PACKAGE = ROOT / "stagecut"

# What stands under each heading of the interface: functions with their arguments.
FUNCTIONS = {
    "tokens": ["tokens(text)"],
    "parser": ["parse(text)", "parse_expr(text)"],
    "printing": ["print_machine(tree)", "print_row(row)", "print_expr(tree)"],
    "check": ["check(tree)", "width_of(plan, core)"],
    "simplify": ["simplify(tree)", "count_parts(tree)"],
    "onestep": ["start(plan, roms)", "step(plan, state)", "steps(plan, state, many)"],
    "pipeline": ["run_pipeline(plan, state, cycles)", "drained(plan, state, many)"],
    "stages": ["times(plan)", "gap(plan, word, number, stage)", "last_use(plan, n)"],
    "barrel": ["run_barrel(plan, states, cycles)"],
    "diagram": ["diagram(plan, state, cycles)", "print_diagram(rows)", "read_diagram(text, slots)"],
    "hazards": ["hazards(plan)"],
    "circuit": ["is_circuit(thing)", "widths_of(circuit)"],
    "circuit_run": ["run_circuit(circuit, contents, cycles)"],
    "fold": ["fold(circuit)"],
    "circuit_text": ["print_circuit(circuit)", "parse_circuit(text)"],
    "waves": ["changes(told)", "filled(found, cycles)", "print_waves(names, told)", "read_waves(text)"],
    "build": ["build(plan)", "record_of(plan, told)"],
    "build_step": ["build_step(plan)", "watch(plan)", "watch_contents(plan, contents)"],
    "recut": ["recut(tree, many)", "heaviest(tree)"],
    "gates": ["is_net(thing)", "run_net(net, cycles)", "cycle_of(net, state)"],
    "blast": ["blast(circuit, contents)", "words_told(circuit, told)"],
    "events": ["run_events(net, cycles)"],
    "net_image": ["write_net(net)", "read_net(row)"],
    "net_text": ["print_net(net)", "parse_net(text)"],
    "shrink": ["shrink(net)"],
    "balance": ["balance(net)"],
    "levels": ["levels(net)", "depth(net)", "longest(net)", "level_counts(net)"],
    "compare": ["difference(one, other, most)"],
    "same_step": ["same_step(one, other, most)"],
    "satisfy": ["satisfy(many, clauses)"],
    "proofs": ["is_proof(clauses, proof)", "are_values(clauses, values)", "trimmed(clauses, proof)"],
    "proof_text": ["print_clauses(many, clauses)", "print_proof(proof)", "read_clauses(text)", "read_proof(text)"],
    "never": ["never(net, which, free, cycles)", "holds_on(net, which, many)", "is_never(net, which, many)"],
    "unroll": ["agree(one, free, other, freed, cycles)"],
    "proved": ["wrong_roms(plan, cycles)", "is_proved(plan, cycles)"],
    "tables": ["map_tables(net, size)", "run_tables(tabled, cycles)", "table_levels(tabled)"],
    "cells": ["pack_cells(tabled)", "run_cells(packed, cycles)"],
    "place": ["place_cells(cells, width, height)", "wire_length(cells, spots)"],
    "route": ["route_cells(cells, spots, width, height, most)"],
    "fabric": ["set_up(packed, spots, ways, width, height)", "run_fabric(fabric, cycles)"],
    "fabric_image": ["write_fabric(fabric)", "read_fabric(row)"],
    "timing": ["slowest(fabric)"],
    "assemble": [
        "parse_forms(text)", "parse_code(text)", "assemble(forms, statements, bits, width)",
        "listed(forms, words, width)", "print_code(statements)",
    ],
    "library": ["machine_text(name)", "forms_text(name)"],
    "run": [
        "compile_text(text)", "net_of(plan, roms)", "by_steps(plan, roms, cycles)", "by_rows(plan, roms, cycles)",
        "by_gates(plan, roms, cycles)", "by_tables(plan, roms, size, cycles)", "first_difference(plan, roms, cycles)",
        "speed(plan, roms, cycles)", "assemble_text(plan, forms, codes)", "run_text(text, forms, codes, cycles)",
    ],
    "physical": ["fabric_of(plan, roms, size)", "by_fabric(plan, roms, size, cycles)"],
    "report": ["sizes(plan, roms)", "print_report(found)"],
}
CLASSES = {
    "errors": {
        "CutError": {}, "TextError": {"__init__": "(self, row, column)"}, "BadCharacter": {}, "BadNumber": {},
        "Unexpected": {}, "Unfit": {"__init__": "(self, stage, index, word)"}, "BadLine": {"__init__": "(self, line)"},
        "BadImage": {}, "TooMany": {}, "NoRoute": {"__init__": "(self, cell)"},
        "BadCode": {"__init__": "(self, statement, word)"},
    },
    "diagrams": {
        "Diagrams": {
            "__init__": "(self, most)", "variable": "(self, at)", "pick": "(self, test, one, other)",
            "no": "(self, part)", "both": "(self, one, other)", "differ": "(self, one, other)",
            "least": "(self, part, many)", "count": "(self, part, many)",
        },
    },
    "pipeline": {
        "Pipeline": {
            "__init__": "(self, plan, state)", "cycle": "(self, *, feed=True)", "is_empty": "(self)", "state": "(self)",
        },
    },
}

# What may be imported from elsewhere.
LIBRARY = {"heapq": ("heappush", "heappop", "heapify"), "itertools": ("combinations",)}
BUILTINS = """len range enumerate zip min max sum abs sorted reversed int str bool bytes list tuple dict set frozenset
    isinstance ord repr any all divmod type ValueError TypeError KeyError IndexError LookupError Exception""".split()
METHODS = """append clear copy count endswith extend find get index insert isalnum isalpha isdigit islower isspace
    isupper items join keys ljust lower lstrip partition pop remove replace reverse rfind rjust rpartition rsplit
    rstrip setdefault split splitlines startswith strip update upper values zfill bit_length removeprefix""".split()
FORBIDDEN = """mro elements open input law version_info with_traceback add_note register attrgetter breakpoint builtins
    compile copyright credits delattr dir eval exec exit gc getattr globals hasattr help id importlib license locals
    methodcaller os quit setattr super vars sys""".split()
MODULE_STATEMENTS = (ast.FunctionDef, ast.ClassDef, ast.ImportFrom, ast.Assign, ast.Expr)
NEVER = (ast.AsyncFunctionDef, ast.Global, ast.Nonlocal, ast.Set, ast.SetComp, ast.Yield, ast.YieldFrom, ast.Await,
         ast.AnnAssign, ast.AsyncFor, ast.With)


def files():
    return sorted(PACKAGE.glob("*.py"))


def trees():
    return {path.stem: ast.parse(path.read_text()) for path in files()}


def own_names(tree):
    """What a module defines at its top."""
    found = []
    for node in tree.body:
        if isinstance(node, (ast.FunctionDef, ast.ClassDef)):
            found.append(node.name)
        elif isinstance(node, ast.Assign):
            found.extend(target.id for target in node.targets)
    return found


def imported(tree):
    return [(node.module, alias.name, alias.asname) for node in tree.body if isinstance(node, ast.ImportFrom)
            for alias in node.names]


def local_names(tree):
    """Names that functions bind: parameters, variables and nested functions."""
    found = []
    for function in ast.walk(tree):
        if isinstance(function, (ast.FunctionDef, ast.Lambda)):
            found.extend(argument.arg for argument in ast.walk(function.args) if isinstance(argument, ast.arg))
            for node in ast.walk(function):
                if isinstance(node, ast.Name) and isinstance(node.ctx, ast.Store):
                    found.append(node.id)
                if isinstance(node, ast.FunctionDef) and node is not function:
                    found.append(node.name)
    return found


class Interface(unittest.TestCase):
    def test_functions(self):
        for name, told in FUNCTIONS.items():
            module = importlib.import_module("stagecut." + name)
            for line in told:
                word, arguments = line.split("(", 1)
                thing = getattr(module, word)
                self.assertEqual(thing.__module__, "stagecut." + name)
                self.assertEqual(str(inspect.signature(thing)), "(" + arguments)

    def test_classes(self):
        for name, told in CLASSES.items():
            module = importlib.import_module("stagecut." + name)
            for word, methods in told.items():
                thing = getattr(module, word)
                self.assertEqual(thing.__module__, "stagecut." + name)
                for method, arguments in methods.items():
                    self.assertIn(method, vars(thing))
                    self.assertEqual(str(inspect.signature(vars(thing)[method])), arguments)


class Files(unittest.TestCase):
    def test_only_modules(self):
        for path in PACKAGE.iterdir():
            self.assertTrue(path.name == "__pycache__" or re.fullmatch(r"[a-z0-9_]+\.py", path.name), path)
        self.assertTrue((PACKAGE / "__init__.py").exists())

    def test_characters_and_sizes(self):
        for path in files():
            text = path.read_text()
            self.assertTrue(all(sign == "\n" or " " <= sign <= "~" for sign in text), path)
            lines = text.split("\n")
            self.assertLess(len(lines), 400, path)
            self.assertLessEqual(max(len(line) for line in lines), 120, path)
            for node in ast.walk(ast.parse(text)):
                if isinstance(node, ast.FunctionDef):
                    self.assertLessEqual(node.end_lineno - node.lineno + 1, 40, (path, node.name))


class Rules(unittest.TestCase):
    def test_imports(self):
        found = trees()
        ahead = {name: [module.removeprefix("stagecut.") for module, _, _ in imported(tree) if module not in LIBRARY]
                 for name, tree in found.items()}
        for name, tree in found.items():
            for module, word, other in imported(tree):
                self.assertIsNone(other)
                if module in LIBRARY:
                    self.assertIn(word, LIBRARY[module], name)
                    continue
                self.assertIn(module.removeprefix("stagecut."), found, name)
                self.assertIn(word, own_names(found[module.removeprefix("stagecut.")]), name)
        done = []
        while len(done) < len(found):
            more = [name for name in found if name not in done and all(one in done for one in ahead[name])]
            self.assertTrue(more, "files that import each other")
            done.extend(more)

    def test_all_imports_are_used(self):
        for name, tree in trees().items():
            used = {node.id for node in ast.walk(tree) if isinstance(node, ast.Name)}
            for _, word, _ in imported(tree):
                self.assertIn(word, used, name)

    def test_module_level(self):
        for name, tree in trees().items():
            bound = own_names(tree) + [word for _, word, _ in imported(tree)]
            self.assertEqual(len(bound), len(set(bound)), name)
            for node in tree.body:
                self.assertIsInstance(node, MODULE_STATEMENTS, name)
                if isinstance(node, ast.Expr):
                    self.assertIsInstance(node.value, ast.Constant, name)
                if isinstance(node, ast.ClassDef):
                    self.assertEqual(node.decorator_list, [])
                    self.assertTrue(all(isinstance(part, (ast.FunctionDef, ast.Expr)) for part in node.body), name)

    def test_names(self):
        for name, tree in trees().items():
            taken = [word for _, word, _ in imported(tree)]
            taken += [node.name for node in tree.body if isinstance(node, ast.ClassDef)]
            for word in local_names(tree):
                self.assertNotIn(word, taken, name)
                self.assertFalse(hasattr(builtins, word), (name, word))
                self.assertNotIn(word, FORBIDDEN, name)
                self.assertRegex(word, r"^(_|_?[A-Za-z][A-Za-z0-9_]*)$", name)
            for word in own_names(tree):
                self.assertFalse(hasattr(builtins, word), (name, word))
                self.assertNotIn(word, FORBIDDEN, name)

    def test_builtins_and_methods(self):
        own_methods = {method.name for tree in trees().values() for part in tree.body
                       if isinstance(part, ast.ClassDef) for method in part.body if isinstance(method, ast.FunctionDef)}
        fields = {node.attr for tree in trees().values() for node in ast.walk(tree)
                  if isinstance(node, ast.Attribute) and isinstance(node.ctx, ast.Store)}
        self.assertFalse(fields & set("items keys values pop update append clear extend insert remove sort".split()))
        self.assertFalse(fields & own_methods)
        for name, tree in trees().items():
            known = own_names(tree) + [word for _, word, _ in imported(tree)] + local_names(tree)
            for node in ast.walk(tree):
                if isinstance(node, ast.Name) and isinstance(node.ctx, ast.Load) and node.id not in known:
                    self.assertIn(node.id, BUILTINS, name)
                if isinstance(node, ast.Name) and isinstance(node.ctx, ast.Load):
                    self.assertNotEqual(node.id, "_", name)
                if isinstance(node, ast.Attribute):
                    self.assertTrue(node.attr in own_methods | fields or node.attr in METHODS + ["__init__"],
                                    (name, node.attr))

    def test_statements_and_expressions(self):
        for name, tree in trees().items():
            for node in ast.walk(tree):
                self.assertNotIsInstance(node, NEVER, name)
                if isinstance(node, ast.Compare):
                    for sign, other in zip(node.ops, node.comparators):
                        if isinstance(sign, (ast.Is, ast.IsNot)) and not isinstance(other, ast.Constant):
                            self.assertTrue(isinstance(node.left, ast.Call) and node.left.func.id == "type", name)
                if isinstance(node, ast.BinOp):
                    self.assertNotIsInstance(node.op, (ast.Div, ast.Pow, ast.MatMult), name)
                if isinstance(node, ast.Constant):
                    self.assertNotIsInstance(node.value, (float, complex), name)
                if isinstance(node, ast.FunctionDef):
                    self.assertEqual(node.decorator_list, [], name)
                if isinstance(node, ast.ExceptHandler):
                    self.assertIsNotNone(node.type, name)


if __name__ == "__main__":
    unittest.main()

"""The interface stands where it is listed, and the files keep to LANGUAGE.md where that is easily seen."""

import ast
import builtins
import pathlib
import unittest

FOLDER = pathlib.Path(__file__).resolve().parent.parent / "heappacts"

FUNCTIONS = {
    "words": ("tokens(text)",),
    "parsing": ("parse(text)",),
    "checking": ("check(program)", "called(procedure)", "procedure_of(program, name)", "count(statements)"),
    "printing": ("print_program(program)",),
    "machine": ("run(program, name, actual, heap, depth, turns)",
                "places_of(program, name, actual, heap, depth, turns)"),
    "terms": ("solve(equations)", "put(term, answer)", "put_cell(cell, answer)", "put_pair(pair, answer)",
              "put_all(things, answer)", "shift(term, variables, news)", "shift_cell(cell, variables, news)",
              "shift_pair(pair, variables, news)", "shift_all(things, variables, news)", "variables_of(things)",
              "certainly_unlike(a, b, addresses)", "words_of(term, words, news)"),
    "paths": ("start(parameters)", "gone(path)", "possible(path)", "term_of(path, operand)",
              "with_name(path, name, term)", "replaced(path, answer)", "with_end(path, end, where)"),
    "rules": ("rules(statement)", "actual_of(statement)", "deep_contract(count)"),
    "placing": ("compose(path, contract, actual)", "ways(path, contract, actual)"),
    "ordering": ("put_in_order(path, result)", "left_out(pairs, addresses, absent)"),
    "abduction": ("abduce(have, need)", "holds(formula, words, heap)", "applies(solution, have, words, heap)"),
    "finding": ("contracts(program, name, depth, turns)", "body_paths(program, procedure, tables, turns)"),
    "applying": ("words_for(contract, actual, heap)", "applying(contracts, actual, heap)",
                 "promised(contract, actual, heap, words)"),
    "examples": ("example(contract)", "examples(contracts)", "reached(program, name, depth, turns)"),
    "faults": ("faults(contracts)", "safe(program, name, depth, turns)", "returning(contracts)"),
    "lost": ("sure(contract)", "perhaps(contract)", "losing(contracts)", "still_held(heap, words)"),
    "asking": ("explore(work, count)",),
    "unknown": ("run_unknown(asker, program, name, actual, depth, turns)",),
    "walking": ("tree(program, name, depth, turns)", "walk(tree, actual, heap)", "leaves(tree)",
                "asked(tree, actual, heap)"),
    "judging": ("judge(program, name, depth, turns, tree)", "faults_of(program, name, depth, turns, tree)"),
    "sameness": ("compare(program, name, other, depth, turns)", "differs(program, name, other, depth, turns)",
                 "partition(program, names, depth, turns)"),
    "beside": ("run_beside(program, names, actuals, heap, mixing)", "mixings(first, second)",
               "independent(program, names)", "serial(program, names)"),
    "mending": ("mended(procedure, mend)", "with_procedure(program, procedure)", "beside_it(program, procedure)",
                "mends(program, name, depth, turns)", "trimmed(program, name, depth, turns)"),
    "refining": ("stands_for(program, name, other, depth, turns)", "order(program, names, depth, turns)"),
    "renaming": ("matched(result, cells, other_result, other_cells, roots)", "alike(contract, other)",
                 "compare_named(program, name, other, depth, turns)"),
    "triples": ("holds_always(program, name, depth, turns, saying)", "strongest(contract)"),
    "backward": ("before(program, name, depth, turns, after)", "needs_met(need, actual, words, heap)"),
}

CLASSES = {
    "errors": {"HeappactsError": (), "TextFault": (), "ProgramFault": (), "TooMany": ()},
    "machine": {"Run": ("__init__(self, program, name, actual, heap, *, depth, turns)", "step(self)", "look(self)",
                        "finish(self)")},
    "asking": {"Asked": (), "Asker": ("__init__(self, count, answers)", "same(self, a, b)", "cell(self, a)",
                                      "stands(self, a)", "unlike(self, a, b)")},
    "keeping": {"Keeper": ("__init__(self, program)", "contracts(self, name, depth, turns)",
                           "change(self, procedure)")},
}


BUILTINS = """len range enumerate zip min max sum abs sorted reversed int str bool list tuple dict set isinstance ord
repr any all divmod super Exception ValueError""".split()

METHODS = """append clear copy count endswith extend find get index insert isalnum isalpha isdigit islower isspace isupper
items join keys ljust lower lstrip partition pop remove replace reverse rfind rjust rpartition rsplit rstrip setdefault
split splitlines startswith strip update upper values zfill add discard""".split()

EATERS = ("list", "tuple", "dict", "sorted", "sum", "min", "max", "any", "all", "enumerate", "zip", "combinations")


def trees():
    return {path.stem: ast.parse(path.read_text("ascii")) for path in sorted(FOLDER.glob("*.py"))}


def heads(nodes):
    return [f"{node.name}({ast.unparse(node.args)})" for node in nodes if isinstance(node, ast.FunctionDef)]


class Interface(unittest.TestCase):
    def test_functions_stand_in_their_files(self):
        found = trees()
        for name, functions in FUNCTIONS.items():
            for function in functions:
                self.assertIn(function, heads(found[name].body), name)

    def test_classes_and_their_methods_stand_in_their_files(self):
        found = trees()
        for name, classes in CLASSES.items():
            bodies = {node.name: node.body for node in found[name].body if isinstance(node, ast.ClassDef)}
            for made, methods in classes.items():
                self.assertIn(made, bodies)
                for method in methods:
                    self.assertIn(method, heads(bodies[made]), name)


class Form(unittest.TestCase):
    def test_nothing_but_files_of_python(self):
        for path in FOLDER.iterdir():
            self.assertTrue(path.suffix == ".py" or path.name == "__pycache__", path)
        self.assertTrue((FOLDER / "__init__.py").exists())

    def test_lines_and_characters(self):
        for path in FOLDER.glob("*.py"):
            text = path.read_bytes()
            self.assertTrue(all(byte == 10 or 32 <= byte <= 126 for byte in text), path)
            lines = text.decode("ascii").splitlines()
            self.assertLess(len(lines), 400, path)
            for line in lines:
                self.assertLessEqual(len(line), 120, (path, line))

    def test_functions_are_short_and_bare(self):
        for name, tree in trees().items():
            for node in ast.walk(tree):
                if isinstance(node, ast.FunctionDef):
                    self.assertLessEqual(node.end_lineno - node.lineno + 1, 40, (name, node.name))
                    self.assertEqual(node.decorator_list, [], (name, node.name))

    def test_imports(self):
        found = trees()
        for name, tree in found.items():
            for node in ast.walk(tree):
                self.assertNotIsInstance(node, ast.Import, name)
                if isinstance(node, ast.ImportFrom) and node.module != "itertools":
                    package, _, module = node.module.partition(".")
                    self.assertEqual((package, node.level), ("heappacts", 0), name)
                    defined = [part.name for part in found[module].body if hasattr(part, "name")]
                    defined += [part.targets[0].id for part in found[module].body if isinstance(part, ast.Assign)]
                    for alias in node.names:
                        self.assertIn(alias.name, defined, name)

    def test_what_is_imported_from_the_library(self):
        for name, tree in trees().items():
            for node in ast.walk(tree):
                if isinstance(node, ast.ImportFrom) and node.module == "itertools":
                    self.assertEqual([(alias.name, alias.asname) for alias in node.names], [("combinations", None)], name)
                if isinstance(node, ast.Name) and node.id == "combinations":
                    self.assertEqual(name, "beside")

    def test_no_floats_and_nothing_global(self):
        for name, tree in trees().items():
            for node in ast.walk(tree):
                self.assertNotIsInstance(node, (ast.Global, ast.Div, ast.AsyncFunctionDef, ast.Yield), name)
                if isinstance(node, ast.Constant):
                    self.assertNotIsInstance(node.value, (float, complex), name)

    def test_local_names(self):
        """No parameter or local variable has the name of a class, an import or a builtin."""
        for name, tree in trees().items():
            taken = set(dir(builtins))
            taken.update(node.name for node in tree.body if isinstance(node, ast.ClassDef))
            taken.update(alias.asname or alias.name for node in tree.body if isinstance(node, ast.ImportFrom)
                         for alias in node.names)
            for node in ast.walk(tree):
                if isinstance(node, ast.arg):
                    self.assertNotIn(node.arg, taken, name)
                if isinstance(node, ast.Name) and isinstance(node.ctx, ast.Store):
                    self.assertNotIn(node.id, taken, name)

    def test_builtins_and_their_methods(self):
        own = {node.name for tree in trees().values() for node in ast.walk(tree)
               if isinstance(node, ast.FunctionDef)} | {"__init__"}
        for name, tree in trees().items():
            for node in ast.walk(tree):
                if isinstance(node, ast.Name) and isinstance(node.ctx, ast.Load) and hasattr(builtins, node.id):
                    self.assertIn(node.id, BUILTINS, name)
                if isinstance(node, ast.Call) and isinstance(node.func, ast.Attribute):
                    self.assertIn(node.func.attr, METHODS + sorted(own), name)

    def test_methods_and_attributes_have_different_names(self):
        methods, attributes = set(), set()
        for tree in trees().values():
            for made in ast.walk(tree):
                if isinstance(made, ast.ClassDef):
                    methods.update(node.name for node in made.body if isinstance(node, ast.FunctionDef))
                if isinstance(made, ast.Attribute) and isinstance(made.ctx, ast.Store):
                    attributes.add(made.attr)
        self.assertEqual(methods & attributes, set())

    def test_what_is_iterated_at_once_and_where_sets_stand(self):
        for name, tree in trees().items():
            parents = {child: node for node in ast.walk(tree) for child in ast.iter_child_nodes(node)}
            for node in ast.walk(tree):
                over = parents.get(node)
                called = over.func.id if isinstance(over, ast.Call) and isinstance(over.func, ast.Name) else None
                if isinstance(node, ast.GeneratorExp):
                    self.assertIn(called, EATERS, (name, node.lineno))
                if isinstance(node, ast.Call) and isinstance(node.func, ast.Name):
                    if node.func.id == "set":
                        self.assertIn(called, ("sorted", "len"), (name, node.lineno))
                    if node.func.id in ("zip", "enumerate", "reversed", "range"):
                        looped = isinstance(over, (ast.For, ast.comprehension)) and over.iter is node
                        self.assertTrue(looped or called in EATERS, (name, node.lineno))
                self.assertNotIsInstance(node, (ast.Set, ast.SetComp), name)

    def test_no_files_import_from_each_other(self):
        uses = {name: {node.module.partition(".")[2] for node in ast.walk(tree) if isinstance(node, ast.ImportFrom)}
                for name, tree in trees().items()}
        while uses:
            free = [name for name, others in uses.items() if not others & set(uses)]
            self.assertTrue(free, uses)
            for name in free:
                del uses[name]


if __name__ == "__main__":
    unittest.main()

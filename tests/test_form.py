"""The interface stands where it is listed, and the files keep to LANGUAGE.md where that is easily seen."""

import ast
import pathlib
import unittest

FOLDER = pathlib.Path(__file__).resolve().parent.parent / "heappacts"

FUNCTIONS = {
    "words": ("tokens(text)",),
    "parsing": ("parse(text)",),
    "checking": ("check(program)", "called(procedure)", "procedure_of(program, name)", "count(statements)"),
    "printing": ("print_program(program)",),
    "machine": ("run(program, name, actual, heap, depth, turns)",
                "places_of(program, name, actual, heap, depth, turns)"),
    "terms": ("solve(equations)", "put(term, answer)", "put_cell(cell, answer)", "put_pair(pair, answer)",
              "put_all(things, answer)", "shift(term, variables, news)", "shift_cell(cell, variables, news)",
              "shift_pair(pair, variables, news)", "shift_all(things, variables, news)", "variables_of(things)",
              "certainly_unlike(a, b, addresses)", "words_of(term, words, news)"),
    "paths": ("start(parameters)", "gone(path)", "possible(path)", "term_of(path, operand)",
              "with_name(path, name, term)", "replaced(path, answer)", "with_end(path, end, where)"),
    "rules": ("rules(statement)", "actual_of(statement)", "deep_contract(count)"),
}

CLASSES = {
    "errors": {"HeappactsError": (), "TextFault": (), "ProgramFault": (), "TooMany": ()},
    "machine": {"Run": ("__init__(self, program, name, actual, heap, *, depth, turns)", "step(self)", "look(self)",
                        "finish(self)")},
}


def trees():
    return {path.stem: ast.parse(path.read_text("ascii")) for path in sorted(FOLDER.glob("*.py"))}


def heads(nodes):
    return [f"{node.name}({ast.unparse(node.args)})" for node in nodes if isinstance(node, ast.FunctionDef)]


class Interface(unittest.TestCase):
    def test_functions_stand_in_their_files(self):
        found = trees()
        for name, functions in FUNCTIONS.items():
            for function in functions:
                self.assertIn(function, heads(found[name].body), name)

    def test_classes_and_their_methods_stand_in_their_files(self):
        found = trees()
        for name, classes in CLASSES.items():
            bodies = {node.name: node.body for node in found[name].body if isinstance(node, ast.ClassDef)}
            for made, methods in classes.items():
                self.assertIn(made, bodies)
                for method in methods:
                    self.assertIn(method, heads(bodies[made]), name)


class Form(unittest.TestCase):
    def test_nothing_but_files_of_python(self):
        for path in FOLDER.iterdir():
            self.assertTrue(path.suffix == ".py" or path.name == "__pycache__", path)
        self.assertTrue((FOLDER / "__init__.py").exists())

    def test_lines_and_characters(self):
        for path in FOLDER.glob("*.py"):
            text = path.read_bytes()
            self.assertTrue(all(byte == 10 or 32 <= byte <= 126 for byte in text), path)
            lines = text.decode("ascii").splitlines()
            self.assertLess(len(lines), 400, path)
            for line in lines:
                self.assertLessEqual(len(line), 120, (path, line))

    def test_functions_are_short_and_bare(self):
        for name, tree in trees().items():
            for node in ast.walk(tree):
                if isinstance(node, ast.FunctionDef):
                    self.assertLessEqual(node.end_lineno - node.lineno + 1, 40, (name, node.name))
                    self.assertEqual(node.decorator_list, [], (name, node.name))

    def test_imports(self):
        found = trees()
        for name, tree in found.items():
            for node in ast.walk(tree):
                self.assertNotIsInstance(node, ast.Import, name)
                if isinstance(node, ast.ImportFrom):
                    package, _, module = node.module.partition(".")
                    self.assertEqual((package, node.level), ("heappacts", 0), name)
                    defined = [part.name for part in found[module].body if hasattr(part, "name")]
                    defined += [part.targets[0].id for part in found[module].body if isinstance(part, ast.Assign)]
                    for alias in node.names:
                        self.assertIn(alias.name, defined, name)

    def test_no_floats_and_nothing_global(self):
        for name, tree in trees().items():
            for node in ast.walk(tree):
                self.assertNotIsInstance(node, (ast.Global, ast.Div, ast.AsyncFunctionDef, ast.Yield), name)
                if isinstance(node, ast.Constant):
                    self.assertNotIsInstance(node.value, (float, complex), name)


if __name__ == "__main__":
    unittest.main()

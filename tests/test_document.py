"""What the document promises over the whole program."""

import os
import pathlib
import subprocess
import sys
import unittest

import heappacts
from drawn import Drawer, variant
from heappacts.applying import applying, promised
from heappacts.backward import before, needs_met
from heappacts.beside import independent, mixings, run_beside, serial
from heappacts.checking import called, check, procedure_of
from heappacts.errors import HeappactsError, ProgramFault, TextFault, TooMany
from heappacts.examples import examples
from heappacts.finding import contracts
from heappacts.judging import faults_of, judge
from heappacts.keeping import Keeper
from heappacts.machine import run
from heappacts.mending import beside_it, mended, mends, trimmed, with_procedure
from heappacts.parsing import parse
from heappacts.printing import print_program
from heappacts.refining import order, stands_for
from heappacts.renaming import alike, compare_named, matched
from heappacts.sameness import compare, differs, partition
from heappacts.triples import holds_always, strongest
from heappacts.walking import asked, leaves, tree, walk
from helpers import Case, told
from trees import loose


class Example(Case):
    def test_the_example_of_the_document(self):
        program = parse("procedure drop(x) { free x; y = x.first; return y; }")
        printed = [repr(contract) for contract in contracts(program, "drop", 1, 0)]
        self.exact(printed, [
            "('contract', (('var', 0),), ((('var', 0), ('var', 1), ('var', 2)),), (), (), 'freed', None, (), "
            "(('drop', 1),), 0)",
            "('contract', (('var', 0),), (), (('var', 0),), ((('var', 0), ('num', 0)),), 'missing', None, (), "
            "(('drop', 0),), 0)",
            "('contract', (('num', 0),), (), (), (), 'null', None, (), (('drop', 0),), 0)"])
        self.exact(run(program, "drop", (7,), ((7, 1, 2),), 1, 0), ("freed", None, None, (("drop", 1),)))


class Errors(Case):
    def test_the_base_of_all(self):
        for error in (TextFault, ProgramFault, TooMany):
            self.assertTrue(issubclass(error, HeappactsError))
        self.assertTrue(issubclass(HeappactsError, ValueError))


def everything(seed):
    """What the functions give for a drawn program, as a list of (name, value)."""
    drawer = Drawer(seed, 7)
    program = drawer.program()
    name = program[-1][1]
    program += (variant(drawer, program[-1], "other"),)
    check(program)
    many = len(program[-1][2])
    formula = ("formula", ((("var", 0), ("var", many + 1), ("var", many + 2)),), ((("var", many + 1), ("num", 0)),))
    limits = (drawer.random.randint(1, 3), drawer.random.randint(0, 2))
    found = []

    def ask(work, *given):
        copied = told(given)
        try:
            value = work(*given)
        except TooMany:
            value = "too many"
        assert told(given) == copied, work.__name__
        found.append((work.__name__, value))
        return value
    lists = ask(contracts, program, name, *limits)
    made = ask(tree, program, name, *limits)
    if made != "too many":
        ask(leaves, made)
        ask(judge, program, name, *limits, made)
        ask(faults_of, program, name, *limits, made)
        ask(faults_of, program, name, *limits, ("same", ("num", 1), ("num", 2), made, ("never",)))
        for actual, heap in examples(leaves(made))[:5]:
            ask(walk, made, actual, heap)
            ask(asked, made, actual, heap)
    for work in (compare, differs, stands_for, compare_named):
        ask(work, program, name, "other", *limits)
    for work in (partition, order):
        ask(work, program, (name, "other"), *limits)
    for work in (mends, trimmed):
        ask(work, program, name, *limits)
    ask(mended, program[-1], ("leave", 0))
    ask(beside_it, program, program[-1])
    ask(with_procedure, program, program[-1])
    needs = ask(before, program, name, *limits, formula)
    for need in needs[:3] if needs != "too many" else ():
        ask(needs_met, need, drawer.words(many), tuple((k, 1) for k, _ in need[5]), drawer.heap())
    ask(holds_always, program, name, *limits, ("saying", formula, formula[1], ("num", 0)))
    if lists != "too many":
        for contract in lists[:5]:
            ask(strongest, contract)
            ask(alike, contract, contract)
            if contract[5] == "return":
                ask(matched, contract[6], contract[7], contract[6], contract[7], ())
    keeper = Keeper(program)
    ask(keeper.contracts, name, *limits)
    keeper.change(variant(drawer, procedure_of(program, name), name))
    ask(keeper.contracts, name, *limits)
    return found


SIDES = parse("""
    procedure f(x) { y = x.first; z = new(y, 0); x.first = z; return z; }
    procedure g(x) { y = x.first; if y = 0 { free x; } return y; }""")


def all_of_it():
    found = [everything(seed) for seed in range(25)]
    found.append([independent(SIDES, ("f", "g")), serial(SIDES, ("f", "g")), mixings(2, 2),
                  run_beside(SIDES, ("f", "g"), ((5,), (5,)), ((5, 0, 1),), (0, 1, 1))])
    return found


class Whole(Case):
    def test_nothing_that_is_handed_in_is_changed(self):
        # everything asserts it for each call
        names = {name for row in all_of_it()[:-1] for name, _ in row}
        self.assertGreater(len(names), 20)

    def test_the_same_each_time(self):
        self.exact(all_of_it(), all_of_it())

    def test_nothing_depends_on_the_order_of_a_set(self):
        folder = pathlib.Path(heappacts.__file__).resolve().parent.parent
        outputs = set()
        for seed in ("0", "1", "77"):
            environment = dict(os.environ, PYTHONHASHSEED=seed, PYTHONPATH=f"{folder}{os.pathsep}{folder / 'tests'}")
            outputs.add(subprocess.run(
                [sys.executable, "-c", "import test_document; print(test_document.all_of_it())"], env=environment,
                capture_output=True, check=True, text=True).stdout)
        self.assertEqual(len(outputs), 1)
        self.assertGreater(len(outputs.pop()), 10000)

    def test_rows_are_tuples(self):
        def kinds(value):
            if isinstance(value, (tuple, list)):
                return {type(value)}.union(*[kinds(part) for part in value])
            return {type(value)}
        for row in all_of_it()[:-1]:
            for name, value in row:
                self.assertLessEqual(kinds(value), {tuple, int, str, bool, type(None)}, name)


class Roads(Case):
    """The contracts, the tree, the judge, the mends and the machine tell the same of one procedure."""

    def test_drawn(self):
        many = 0
        for seed in range(120):
            drawer = Drawer(seed + 5000, 8)
            program = drawer.program()
            self.exact(parse(print_program(program)), program)
            _, name, parameters, _, _ = program[-1]
            limits = (drawer.random.randint(1, 3), drawer.random.randint(0, 2))
            try:
                found = contracts(program, name, *limits)
            except TooMany:
                continue
            made = tree(program, name, *limits)
            self.exact({loose(leaf) for leaf in leaves(made)} == {loose(contract) for contract in found}, True)
            self.exact(judge(program, name, *limits, made), True)
            shorter = trimmed(program, name, *limits)
            both = beside_it(program, shorter)
            starts = list(examples(found)) + [(drawer.words(len(parameters)), drawer.heap()) for _ in range(5)]
            for actual, heap in starts:
                outcome = run(program, name, actual, heap, *limits)
                number, words, _ = applying(found, actual, heap)
                self.exact(promised(found[number], actual, heap, words), outcome)
                self.exact(loose(walk(made, actual, heap)), loose(found[number]))
                # the calls of one that calls itself have changed too
                if name not in called(shorter):
                    many += 1
                    self.exact(run(both, "z" + name[:7], actual, heap, *limits)[:3], outcome[:3])
        self.assertGreater(many, 600)


if __name__ == "__main__":
    unittest.main()

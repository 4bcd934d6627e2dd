"""No call takes long. The limits are such that a slow machine keeps them too."""

import random
import time
import unittest

import slowly
from heappacts.backward import before
from heappacts.beside import independent, serial
from heappacts.checking import check, procedure_of
from heappacts.errors import TooMany
from heappacts.finding import contracts
from heappacts.judging import faults_of, judge
from heappacts.keeping import Keeper
from heappacts.mending import beside_it, mends, trimmed
from heappacts.parsing import parse
from heappacts.refining import order, stands_for
from heappacts.renaming import compare_named
from heappacts.sameness import compare, differs, partition
from heappacts.triples import holds_always
from heappacts.walking import leaves, tree
from helpers import Case
from test_finding import LONG

NAMES = ("a", "b2", "c", "d")
ASKED = (("f", 1, 1), ("g", 2, 1), ("g", 1, 1), ("h", 2, 1), ("f", 1, 0))


def comparing(rows, result="a"):
    """A procedure f that compares its parameters with constants, as (parameter, constant), and two that call it."""
    ifs = tuple(("if", place, name, constant, (), ()) for place, (name, constant) in enumerate(rows))
    return (("procedure", "f", NAMES, ifs, result),
            ("procedure", "g", NAMES, (("call", 0, "r", "f", NAMES),), "r"),
            ("procedure", "h", ("a",), (("call", 0, "r", "f", (1, 1, 1, 1)),), "r"))


def rows_of(counts):
    return [(name, number + 1) for name, count in zip(NAMES, counts) for number in range(count)]


class Compared(Case):
    """Procedures with nearly 150 contracts, or more than that."""

    def counted(self, counts):
        product = 1
        for count in counts:
            product *= count + 1
        return product

    def check_answers(self, program, many):
        for name, depth, turns in ASKED:
            if many > 150 and (name, depth) != ("g", 1):
                self.fault(TooMany, {}, contracts, program, name, depth, turns)
                continue
            found = contracts(program, name, depth, turns)
            self.assertEqual(found, slowly.Finder(program, turns).contracts(name, depth), (name, depth, turns))
            self.exact(len(found), many if (name, depth) in (("f", 1), ("g", 2)) else 1)

    def test_144_150_160_and_others(self):
        for counts in ((5, 4, 4, 0), (1, 4, 4, 2), (5, 3, 2, 1), (2, 2, 3, 3), (5, 5, 3, 0), (8, 0, 0, 0), (4, 3, 3, 1),
                       (7, 4, 3, 0), (3, 3, 4, 1), (1, 1, 4, 7), (4, 4, 3, 3), (2, 5, 3, 1), (11, 2, 0, 1), (14, 9, 0, 0)):
            rows = rows_of(counts)
            draw = random.Random(str(counts))
            for _ in range(2):
                self.check_answers(comparing(rows, draw.choice(NAMES)), self.counted(counts))
                draw.shuffle(rows)

    def test_drawn(self):
        sizes = set()
        for seed in range(60):
            draw = random.Random(seed)
            counts = [0, 0, 0, 0]
            for _ in range(draw.randint(8, 14)):
                counts[draw.randrange(4)] += 1
            rows = rows_of(counts)
            draw.shuffle(rows)
            many = self.counted(counts)
            sizes.add(many > 150)
            self.check_answers(comparing(rows, draw.choice(NAMES)), many)
        self.exact(sizes, {True, False})

    def test_some_hundred_calls(self):
        for counts in ((5, 4, 4, 0), (4, 4, 3, 3)):
            program = comparing(rows_of(counts))
            begun = time.process_time()
            for _ in range(60):
                for name, depth, turns in ASKED:
                    try:
                        contracts(program, name, depth, turns)
                    except TooMany:
                        pass
            # 1.2 seconds where this was written
            self.assertLess(time.process_time() - begun, 10, counts)


class Limits(Case):
    def quick(self, seconds, work, *given):
        begun = time.process_time()
        try:
            found = work(*given)
        except TooMany:
            found = "too many"
        self.assertLess(time.process_time() - begun, seconds, (work.__name__, given[1:]))
        return found

    def test_every_function_on_long_procedures(self):
        for text, name in LONG.values():
            program = parse(text)
            check(program)
            procedure = procedure_of(program, name)
            both = beside_it(program, procedure)
            other = "z" + name
            many = len(procedure[2])
            formula = ("formula", ((("var", 0), ("var", many + 1), ("var", many + 2)),), ())
            made = self.quick(20, tree, program, name, 4, 3)
            if made != "too many":
                self.exact(self.quick(20, judge, program, name, 4, 3, made), True)
            for work in (compare, differs, stands_for, compare_named):
                self.assertIn(self.quick(20, work, both, name, other, 4, 3), (None, "too many"))
            for work in (partition, order):
                self.quick(30, work, both, (name, other), 4, 3)
            self.quick(60, mends, program, name, 2, 3)
            self.quick(60, trimmed, program, name, 2, 3)
            self.quick(20, before, program, name, 4, 3, formula)
            self.quick(20, holds_always, program, name, 4, 3, ("saying", formula, (), ("num", 0)))
            self.quick(20, Keeper(program).contracts, name, 4, 3)

    def test_many_contracts_and_many_leaves(self):
        program = comparing(rows_of((5, 4, 4, 0)))
        self.exact(len(self.quick(20, mends, program, "f", 1, 0)), 51)
        self.exact(self.quick(20, trimmed, program, "f", 1, 0)[3], ())
        other = comparing(rows_of((5, 4, 4, 0))[::-1])[0]
        both = program + (("procedure", "other") + other[2:],)
        for work in (compare, differs, stands_for, compare_named):
            self.exact(self.quick(20, work, both, "f", "other", 1, 0), None)
        program = comparing(rows_of((5, 4, 4, 4)))
        made = self.quick(20, tree, program, "f", 1, 0)
        self.exact(len(leaves(made)), 750)
        self.exact(self.quick(20, faults_of, program, "f", 1, 0, made), ())
        self.exact(len(self.quick(20, faults_of, program, "h", 1, 0, made)), 750)

    def test_sides_with_many_ways(self):
        program = parse("procedure f(x, y, z) { a = x.first; b = y.first; c = z.first; d = x.first; return a; } "
                        "procedure g(x, y) { a = x.first; b = y.first; c = x.second; d = y.second; return a; }")
        for work in (independent, serial):
            self.exact(self.quick(60, work, program, ("f", "g")), None)


if __name__ == "__main__":
    unittest.main()

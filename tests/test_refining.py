import unittest

import slowcases
from drawn import Drawer, variant
from heappacts.errors import TooMany
from heappacts.finding import contracts
from heappacts.machine import run
from heappacts.parsing import parse
from heappacts.refining import order, stands_for
from heappacts.sameness import compare
from helpers import Case
from starts import near


def two(first, second, parameters="x", result="0"):
    return parse(f"procedure f({parameters}) {{ {first} return {result}; }} "
                 f"procedure g({parameters}) {{ {second} return {result}; }}")


class StandsFor(Case):
    def found(self, program, expected, depth=1, turns=0, name="f", other="g"):
        self.exact(stands_for(program, name, other, depth, turns), expected)
        self.exact(slowcases.stands_for(program, name, other, depth, turns), expected)
        if expected is not None:
            outcomes = [run(program, each, *expected, depth, turns)[:3] for each in (name, other)]
            self.exact(outcomes[0][0], "return")
            self.assertNotEqual(outcomes[0], outcomes[1])

    def test_each_end_of_the_first_one(self):
        for body in ("y = 0.first;", "y = x.first; y = 0.first;", "free x; y = x.first;", "while 0 != 1 { }"):
            # where the first one never returns any other one can stand for it
            self.found(two(body, "y = 1; x.first = 5;"), None, turns=1)
            self.found(two(body, ""), None, turns=1)
            expected = ((100,), ((100, 101, 102),) if "x" in body else ())
            self.found(two("", body), expected, turns=1)

    def test_a_fault_where_the_other_one_returns(self):
        program = two("y = x.first;", "if x = 0 { y = 0; } else { y = x.first; }", "x", "y")
        self.found(program, None)
        self.found(program, ((0,), ()), name="g", other="f")
        program = two("y = x.first;", "")
        self.found(program, None)
        self.found(program, ((100,), ()), name="g", other="f")

    def test_more_turns_and_another_depth(self):
        program = two("while x != 0 { x = x.second; }", "if x = 0 { } else { x = x.second; while x != 0 { x = x.second; } }",
                      "x", "x")
        for turns in (0, 1, 2):
            self.found(program, None, turns=turns)
        self.found(program, ((100,), ((100, 101, 0),)), turns=0, name="g", other="f")
        self.found(program, ((100,), ((100, 101, 102), (102, 103, 0))), turns=1, name="g", other="f")
        program = parse("procedure g(x) { y = x.first; return y; } procedure f(x) { y = g(x); return y; }")
        self.found(program, None, 1)
        self.found(program, ((100,), ((100, 101, 102),)), 1, name="g", other="f")
        self.found(program, None, 2)
        self.found(program, None, 2, name="g", other="f")

    def test_the_first_case_in_its_order(self):
        # the fault comes first in f and does not count
        program = two("if x = 1 { y = 0.first; } if x = 2 { y = 1; } if x = 3 { y = 2; }",
                      "if x = 3 { y = 9; } if x = 2 { y = 8; }", "x", "y")
        self.exact(compare(program, "f", "g", 1, 0), ((1,), ()))
        self.found(program, ((2,), ()))
        self.found(program, ((3,), ()), name="g", other="f")

    def test_none_where_compare_gives_none(self):
        found = {}
        for seed in range(400):
            drawer = Drawer(seed, 8)
            program = drawer.program()
            name = program[-1][1]
            program += (variant(drawer, program[-1], "other"),)
            depth, turns = drawer.random.randint(1, 3), drawer.random.randint(0, 2)
            for first, second in ((name, "other"), ("other", name)):
                try:
                    expected = slowcases.stands_for(program, first, second, depth, turns)
                except TooMany:
                    self.fault(TooMany, {}, stands_for, program, first, second, depth, turns)
                    continue
                self.found(program, expected, depth, turns, first, second)
                whole = compare(program, first, second, depth, turns) is None
                if whole:
                    self.exact(expected, None)
                found[(whole, expected is None)] = found.get((whole, expected is None), 0) + 1
        for key in ((True, True), (False, True), (False, False)):
            self.assertGreater(found[key], 60)

    def test_where_it_can_it_ends_alike_wherever_the_first_one_returns(self):
        many = 0
        for seed in range(150):
            drawer = Drawer(seed, 6)
            program = drawer.program()
            name = program[-1][1]
            program += (variant(drawer, program[-1], "other"),)
            try:
                if stands_for(program, name, "other", 2, 1) is not None:
                    continue
                found = contracts(program, name, 2, 1) + contracts(program, "other", 2, 1)
            except TooMany:
                continue
            for contract in found:
                for actual, heap in near(drawer, contract):
                    outcome = run(program, name, actual, heap, 2, 1)
                    if outcome[0] == "return":
                        many += 1
                        self.exact(run(program, "other", actual, heap, 2, 1), outcome)
        self.assertGreater(many, 500)

    def test_too_many(self):
        def rows(name, many, block="{ }"):
            return "".join(f"if {name} = {number} {block} " for number in range(1, many))
        self.exact(stands_for(two(rows("x", 30), rows("y", 50), "x, y"), "f", "g", 1, 0), None)
        self.fault(TooMany, {}, stands_for, two(rows("x", 19), rows("y", 79), "x, y"), "f", "g", 1, 0)
        # what does not return is not gone through
        program = two(rows("x", 19, "{ z = 0.first; }"), rows("y", 79), "x, y")
        self.exact(stands_for(program, "f", "g", 1, 0), None)


class Order(Case):
    PROGRAM = parse("""
        procedure a(x) { y = x.first; return y; }
        procedure b(x) { if x = 0 { y = 0; } else { y = x.first; } return y; }
        procedure c(x) { y = x.second; return y; }
        procedure d(x) { y = 0.first; return x; }
        procedure e(x) { z = 1; y = x.first; return y; }
        procedure g(x) { y = a(x); return y; }""")

    def test_all_pairs_in_the_order_of_the_names(self):
        self.exact(order(self.PROGRAM, ("a", "b", "c", "d", "e"), 1, 0), (
            ("a", "b"), ("a", "e"), ("d", "a"), ("d", "b"), ("d", "c"), ("d", "e"), ("e", "a"), ("e", "b")))
        self.exact(order(self.PROGRAM, ("e", "d", "b", "a"), 1, 0), (
            ("e", "b"), ("e", "a"), ("d", "e"), ("d", "b"), ("d", "a"), ("a", "e"), ("a", "b")))

    def test_few(self):
        self.exact(order(self.PROGRAM, (), 1, 0), ())
        self.exact(order(self.PROGRAM, ("a",), 1, 0), ())
        self.exact(order(self.PROGRAM, ("a", "c"), 1, 0), ())

    def test_limits(self):
        self.exact(order(self.PROGRAM, ("a", "g"), 1, 0), (("g", "a"),))
        self.exact(order(self.PROGRAM, ("a", "g"), 2, 0), (("a", "g"), ("g", "a")))

    def test_as_stands_for_tells(self):
        for seed in range(40):
            drawer = Drawer(seed, 6)
            first = drawer.program()[-1]
            program = tuple(drawer.made) + tuple(variant(drawer, first, name) for name in ("p", "q", "r"))
            names = ("q", first[1], "p", "r")
            try:
                expected = tuple((a, b) for a in names for b in names
                                 if a != b and stands_for(program, a, b, 2, 1) is None)
            except TooMany:
                continue
            self.exact(order(program, names, 2, 1), expected, seed)


if __name__ == "__main__":
    unittest.main()

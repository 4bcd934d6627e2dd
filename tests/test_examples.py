import unittest

from drawn import Drawer
from heappacts.applying import words_for
from heappacts.errors import TooMany
from heappacts.examples import example, examples, reached
from heappacts.finding import contracts
from heappacts.machine import places_of
from heappacts.parsing import parse
from helpers import Case, new, num, var
from samples import PROGRAM, SAMPLES

X, Y, Z, U, V = (var(number) for number in range(5))


def contract(arguments=(), needs=(), absent=(), differ=(), end="return", result=num(0), gives=(), where=(), news=0):
    return ("contract", arguments, needs, absent, differ, end, result, gives, where, news)


class Example(Case):
    def test_arguments(self):
        self.exact(example(contract()), ((), ()))
        self.exact(example(contract((X, Y))), ((100, 101), ()))
        self.exact(example(contract((X, X, Y, num(0), num(99), X))), ((100, 100, 101, 0, 99, 100), ()))
        self.exact(example(contract((num(7),))), ((7,), ()))

    def test_cells(self):
        self.exact(example(contract((X,), ((X, Y, Z),))), ((100,), ((100, 101, 102),)))
        self.exact(example(contract((X,), ((X, X, num(3)),))), ((100,), ((100, 100, 3),)))
        self.exact(example(contract((), ((num(7), num(0), X),))), ((), ((7, 0, 100),)))

    def test_rising_addresses(self):
        self.exact(example(contract((X, Y), ((Y, Z, U), (X, num(2), V), (num(50), Y, X), (num(8), Z, Z)))),
                   ((100, 101), ((8, 102, 102), (50, 101, 100), (100, 2, 104), (101, 102, 103))))

    def test_the_rest_does_not_count(self):
        self.exact(example(contract((X,), (), (X,), ((X, num(0)),), "missing", None, (), (("f", 0),))), ((100,), ()))
        self.exact(example(contract((X,), result=new(0), gives=((new(0), X, X),), news=1)), ((100,), ()))

    def test_examples(self):
        rows = (contract((X,)), contract((num(4),)), contract((X,), ((X, Y, Z),)))
        self.exact(examples(rows), (((100,), ()), ((4,), ()), ((100,), ((100, 101, 102),))))
        self.exact(examples(()), ())
        self.exact(examples(rows), tuple(example(row) for row in rows))

    def only_its_own(self, found):
        for number, (actual, heap) in enumerate(examples(found)):
            applied = [other for other, made in enumerate(found) if words_for(made, actual, heap) is not None]
            self.assertEqual(applied, [number], (found[number], actual, heap))
            addresses = [cell[0] for cell in heap]
            self.assertEqual(addresses, sorted(set(addresses)))

    def test_its_contract_applies_and_no_other_one(self):
        for name, depth, turns in SAMPLES:
            self.only_its_own(contracts(PROGRAM, name, depth, turns))
        for seed in range(200):
            drawer = Drawer(seed, 9)
            program = drawer.program()
            try:
                self.only_its_own(contracts(program, program[-1][1], 2, 2))
            except TooMany:
                pass


REACHED = parse("""
procedure last(a) { b = a.first; if b = a { c = 1; } else { c = 2; } return c; }
procedure never(a) { a = 1; return a; }
procedure begin(x) {
    if x = 0 { y = 1; } else { y = 2; free x; z = x.first; u = 1; }
    if x = 1 { v = last(x); } else { }
    if 1 = 2 { w = never(x); }
    while x != x { x = 0; }
    return y;
}
""")


class Reached(Case):
    def test_statements_that_no_run_and_that_only_some_runs_reach(self):
        self.exact(reached(REACHED, "begin", 2, 1), tuple(("begin", place) for place in (0, 1, 2, 3, 4, 6, 8, 10)))

    def test_calls_and_the_order(self):
        program = parse("procedure a(x) { y = 1; y = 2; return y; } procedure b(x) { if x = 0 { z = 3; } return x; } "
                        "procedure c(x) { z = b(x); z = a(x); return z; }")
        self.exact(reached(program, "c", 2, 0), (("a", 0), ("a", 1), ("b", 0), ("b", 1), ("c", 0), ("c", 1)))
        self.exact(reached(program, "c", 1, 0), (("c", 0),))
        self.exact(reached(program, "b", 1, 0), (("b", 0), ("b", 1)))
        turned = program[:1] + (program[2], program[1])
        self.exact(reached((program[1], program[0], program[2]), "c", 2, 0),
                   (("b", 0), ("b", 1), ("a", 0), ("a", 1), ("c", 0), ("c", 1)))
        self.exact(reached(turned, "b", 1, 0), (("b", 0), ("b", 1)))

    def test_by_the_numbers_of_the_places(self):
        program = parse("procedure f(x) { " + "y = 1; " * 12 + "return y; }")
        self.exact(reached(program, "f", 1, 0), tuple(("f", place) for place in range(12)))

    def test_only_beyond_some_turns_or_calls(self):
        program = parse("procedure f(x) { while x != 0 { y = x; x = x.first; if x = y { z = 1; } } return z; }")
        self.exact(reached(program, "f", 1, 0), (("f", 0),))
        self.exact(reached(program, "f", 1, 1), tuple(("f", place) for place in (0, 1, 2, 3, 4)))

    def test_nothing(self):
        self.exact(reached(parse("procedure f() { return 0; }"), "f", 1, 0), ())

    def test_too_many(self):
        program = parse("procedure f(a, b, c, d) { " + "".join(
            f"if {name} = {number} {{ }} " for name in "abcd" for number in (1, 2, 3)) + "return 0; }")
        self.fault(TooMany, {}, reached, program, "f", 1, 0)

    def test_everything_that_the_runs_of_examples_do(self):
        for name, depth, turns in SAMPLES:
            found = reached(PROGRAM, name, depth, turns)
            expected = set()
            for actual, heap in examples(contracts(PROGRAM, name, depth, turns)):
                expected.update(places_of(PROGRAM, name, actual, heap, depth, turns))
            order = [procedure[1] for procedure in PROGRAM]
            self.exact(found, tuple(sorted(expected, key=lambda place: (order.index(place[0]), place[1]))))

    def test_every_statement_that_some_run_does(self):
        for seed in range(60):
            drawer = Drawer(seed, 8)
            program = drawer.program()
            name, parameters = program[-1][1:3]
            try:
                found = reached(program, name, 3, 2)
            except TooMany:
                continue
            for _ in range(20):
                done = places_of(program, name, drawer.words(len(parameters)), drawer.heap(), 3, 2)
                self.assertEqual([place for place in done if place not in found], [], seed)


if __name__ == "__main__":
    unittest.main()

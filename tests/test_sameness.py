import unittest

import slowcases
from drawn import Drawer, variant
from heappacts.errors import TooMany
from heappacts.finding import contracts
from heappacts.machine import run
from heappacts.parsing import parse
from heappacts.sameness import compare, differs, partition
from heappacts.unknown import run_unknown
from helpers import Case
from samples import PROGRAM, SAMPLES
from starts import near


def alike(program, name, other, actual, heap, depth, turns):
    """Whether both end alike on these arguments and this heap: the ends, the results and the heaps."""
    outcomes = [run(program, each, actual, heap, depth, turns)[:3] for each in (name, other)]
    return outcomes[0] == outcomes[1]


def drawn_pair(seed, most=8):
    """A drawer, a program whose last two procedures have as many parameters, and limits."""
    drawer = Drawer(seed, most)
    program = drawer.program()
    program += (variant(drawer, program[-1], "other"),)
    return drawer, program, drawer.random.randint(1, 3), drawer.random.randint(0, 2)


def two(first, second, parameters="x", result="0", more=""):
    return parse(more + f"procedure f({parameters}) {{ {first} return {result}; }} "
                        f"procedure g({parameters}) {{ {second} return {result}; }}")


class Compare(Case):
    def found(self, program, expected, depth=1, turns=0, name="f", other="g"):
        self.exact(compare(program, name, other, depth, turns), expected)
        self.exact(slowcases.compare(program, name, other, depth, turns), expected)
        parted = differs(program, name, other, depth, turns)
        self.exact(parted is None, expected is None)
        for example in (expected, parted):
            if example is not None:
                actual, heap = example
                self.assertFalse(alike(program, name, other, actual, heap, depth, turns), example)


class Alike(Compare):
    def test_the_same_under_another_name(self):
        for name, depth, turns in SAMPLES:
            (procedure,) = [each for each in PROGRAM if each[1] == name]
            program = PROGRAM + (("procedure", "other") + procedure[2:],)
            for first, second in ((name, "other"), ("other", name), (name, name)):
                self.exact(compare(program, first, second, depth, turns), None)
                self.exact(differs(program, first, second, depth, turns), None)

    def test_other_places_and_other_calls(self):
        self.found(two("y = 1; z = x.first;", "z = x.first;"), None)
        self.found(two("z = h(x);", "z = x.first;", "x", "z", "procedure h(x) { x = x.first; return x; } "), None, 2)
        self.found(two("z = h(x);", "z = x.first;", "x", "z", "procedure h(x) { x = x.first; return x; } "),
                   ((100,), ((100, 101, 102),)), 1)

    def test_given_cells_in_another_order(self):
        self.found(two("x.first = 1; y.first = 2;", "y.first = 2; x.first = 1;", "x, y"),
                   ((100, 100), ((100, 101, 102),)))
        self.found(two("if x = y { } else { x.first = 1; y.first = 2; }", "if x = y { } else { y.first = 2; x.first = 1; }",
                       "x, y"), ((100, 0), ()))
        load = "z = x.first; z = y.first; "
        self.found(two(load + "x.first = 1; if x = y { } else { y.first = 2; }",
                       load + "if x = y { x.first = 1; } else { y.first = 2; x.first = 1; }", "x, y"), None)

    def test_cells_that_only_one_needs(self):
        # an access that one of the two makes and the other one does not
        self.found(two("z = x.first;", ""), ((100,), ()))
        self.found(two("", "z = x.first;"), ((100,), ()))
        self.found(two("while 0 != 1 { }", "while 0 != 2 { x = x.first; }"), None)
        self.found(two("while 0 != 1 { }", "x = x.first; while 0 != 2 { }"), ((100,), ()))
        self.found(two("z = x.first; z = 1;", "x.first = 1; z = 1;"), ((100,), ((100, 101, 102),)))
        self.found(two("z = x.first; x.first = z;", "z = x.second;"), None)

    def test_no_parameters(self):
        self.found(two("z = 5.first;", "z = 5.second; z = 5.first;", "", "z"), None)
        self.found(two("", "", "", "7"), None)
        self.found(two("z = 5.first;", "z = 5.second;", "", "z"), ((), ((5, 100, 101),)))

    def test_freed_and_new_cells(self):
        self.found(two("free x;", "free x; y = new(x, x); free y;"), None)
        self.found(two("y = new(x, 1); z = new(x, 2);", "z = new(x, 2); y = new(x, 1);"), ((100,), ()))
        self.found(two("y = new(x, 1); free y; z = new(x, 2);", "y = new(x, 5); free y; z = new(x, 2);", "x", "z"), None)
        self.found(two("y = new(x, 1); free y; z = new(x, 2);", "z = new(x, 2);", "x", "z"), ((100,), ()))


class First(Compare):
    """The first case in the order of the contracts of the one, then of the other one, then of the ways."""

    def test_the_order_of_the_contracts(self):
        # the same on the first contract of f, which is that of a cell
        self.found(two("z = x.first;", "if x = 0 { } else { z = x.first; }", "x", "z"), ((0,), ()))
        self.found(two("z = x.first; while z != 3 { }", "z = x.first; while z != 4 { }", "x", "z"),
                   ((100,), ((100, 3, 101),)))
        self.found(two("if x = 1 { z = 1; } if x = 2 { z = 2; }", "if x = 2 { z = 2; } if x = 3 { z = 1; }", "x", "z"),
                   ((1,), ()))
        self.found(two("if x = 2 { z = 2; } if x = 3 { z = 1; }", "if x = 1 { z = 1; } if x = 2 { z = 2; }", "x", "z"),
                   ((3,), ()))

    def test_one_cell_or_two(self):
        self.found(two("z = x.first; z = y.first;", "z = y.first; z = x.first;", "x, y", "z"),
                   ((100, 101), ((100, 102, 103), (101, 104, 105))))
        self.found(two("x.first = 1; y.first = 2;", "x.first = 3; y.first = 2;", "x, y"),
                   ((100, 101), ((100, 102, 103), (101, 104, 105))))

    def test_no_pair_is_left_out_and_none_counts(self):
        self.found(two("if x = 3 { } else { z = y.first; }", "if x = 3 { z = 1; } else { if y = x { z = 1; } else "
                       "{ z = y.first; } }", "x, y", "z"), ((3, 100), ()))

    def test_numbered_by_arguments_and_cells(self):
        # the cell at y is needed before the one at x
        self.found(two("z = y.first; u = x.first; if x = y { } else { z = 1; }", "z = y.first; u = x.first;", "x, y", "z"),
                   ((100, 101), ((100, 104, 105), (101, 102, 103))))

    def test_drawn(self):
        found = {}
        for seed in range(700):
            _, program, depth, turns = drawn_pair(seed)
            name = program[-2][1]
            for first, second in ((name, "other"), ("other", name)):
                try:
                    expected = slowcases.compare(program, first, second, depth, turns)
                except TooMany:
                    self.fault(TooMany, {}, compare, program, first, second, depth, turns)
                    continue
                example = compare(program, first, second, depth, turns)
                self.exact(example, expected, (seed, first))
                found[example is None] = found.get(example is None, 0) + 1
                if example is not None:
                    self.assertFalse(alike(program, first, second, *example, depth, turns), seed)
        self.assertGreater(min(found.values()), 300)


class Everywhere(Case):
    def test_none_where_drawn_starts_end_alike(self):
        many = 0
        for seed in range(300):
            drawer, program, depth, turns = drawn_pair(seed, 6)
            name = program[-2][1]
            try:
                if compare(program, name, "other", depth, turns) is not None:
                    continue
                found = contracts(program, name, depth, turns) + contracts(program, "other", depth, turns)
            except TooMany:
                continue
            for contract in found:
                for actual, heap in near(drawer, contract):
                    many += 1
                    self.assertTrue(alike(program, name, "other", actual, heap, depth, turns), (seed, actual, heap))
        self.assertGreater(many, 5000)


class Differs(Case):
    def test_as_explore_finds_it(self):
        found = {}
        for seed in range(400):
            _, program, depth, turns = drawn_pair(seed)
            name = program[-2][1]
            try:
                expected = slowcases.differs(program, name, "other", depth, turns, run_unknown)
            except TooMany:
                self.fault(TooMany, {}, differs, program, name, "other", depth, turns)
                continue
            example = differs(program, name, "other", depth, turns)
            self.exact(example, expected, seed)
            found[example is None] = found.get(example is None, 0) + 1
            if example is not None:
                self.assertFalse(alike(program, name, "other", *example, depth, turns), seed)
            try:
                self.exact(compare(program, name, "other", depth, turns) is None, example is None, seed)
            except TooMany:
                pass
        self.assertGreater(min(found.values()), 100)

    def test_the_first_way_yes_before_no(self):
        self.exact(differs(two("if x = 1 { z = 1; } if x = 2 { z = 2; }", "if x = 2 { z = 2; } if x = 3 { z = 1; }", "x",
                               "z"), "f", "g", 1, 0), ((1,), ()))
        self.exact(differs(two("z = x.first;", "z = x.second;", "x", "z"), "f", "g", 1, 0), ((100,), ((100, 101, 102),)))
        self.exact(differs(two("z = x.first; z = y.first;", "z = y.first; z = x.first;", "x, y", "z"), "f", "g", 1, 0),
                   ((0, 100), ()))

    def test_a_cell_that_only_the_second_one_asks_for(self):
        program = two("", "x.first = 5;")
        self.exact(differs(program, "f", "g", 1, 0), ((0,), ()))
        program = two("if x = 0 { z = x.first; }", "x.first = 5;")
        self.exact(differs(program, "f", "g", 1, 0), ((100,), ((100, 101, 102),)))
        program = two("if x = 0 { z = x.first; }", "z = x.first; x.first = 5; x.first = z;")
        self.exact(differs(program, "f", "g", 1, 0), ((100,), ()))

    def test_too_many_ways(self):
        for many, result in ((38, "0"), (39, "0"), (38, "1"), (39, "1")):
            body = "".join(f"if x = {number} {{ }} " for number in range(1, many))
            program = parse(f"procedure f(x, y) {{ {body} return 0; }} "
                            + f"procedure g(x, y) {{ {body.replace('x', 'y')} return {result}; }}")
            if many == 38:
                self.exact(differs(program, "f", "g", 1, 0), None if result == "0" else ((1, 1), ()))
            else:
                self.fault(TooMany, {}, differs, program, "f", "g", 1, 0)


class Bounds(Case):
    def program(self, first, second, result="0"):
        """Two procedures that compare x and y with so many constants."""
        rows = ["".join(f"if {name} = {number} {{ }} " for number in range(1, many))
                for name, many in (("x", first), ("y", second))]
        text = "procedure {0}(x, y) {{ {1} return {2}; }} "
        return parse(text.format("f", rows[0], "0") + text.format("g", rows[1], result)
                     + text.format("many", rows[0] + rows[1], "0"))

    def test_1500_cases(self):
        # as many cases as the product of the contracts
        self.exact(compare(self.program(30, 50), "f", "g", 1, 0), None)
        self.exact(compare(self.program(50, 30), "g", "f", 1, 0), None)
        self.fault(TooMany, {}, compare, self.program(19, 79), "f", "g", 1, 0)
        self.fault(TooMany, {}, compare, self.program(99, 99), "f", "g", 1, 0)
        # the first case of all
        self.exact(compare(self.program(99, 99, "1"), "f", "g", 1, 0), ((1, 1), ()))

    def test_as_contracts_does(self):
        program = self.program(13, 12)
        self.exact(compare(program, "f", "g", 1, 0), None)
        for first, second in (("f", "many"), ("many", "g"), ("many", "many")):
            self.fault(TooMany, {}, compare, program, first, second, 1, 0)
        self.exact(compare(self.program(15, 10), "f", "many", 1, 0), None)

    def test_contracts_that_both_have_count_too(self):
        body = "".join(f"if x = {number} {{ }} " for number in range(1, 39))
        text = "procedure {0}(x, y) {{ if y = 0 {{ }} else {{ {1} }} return 0; }} "
        program = parse(text.format("f", body) + text.format("g", body.replace("x", "y")))
        self.exact(len(contracts(program, "f", 1, 0)), 40)
        # the one of y = 0, and 39 * 39 others
        self.fault(TooMany, {}, compare, program, "f", "g", 1, 0)
        body = "".join(f"if x = {number} {{ }} " for number in range(1, 38))
        program = parse(text.format("f", body) + text.format("g", body.replace("x", "y")))
        self.exact(compare(program, "f", "g", 1, 0), None)


class Partition(Case):
    PROGRAM = parse("""
        procedure a(x) { y = x.first; return y; }
        procedure b(x) { y = x.second; return y; }
        procedure c(x) { z = 1; y = x.first; return y; }
        procedure d(x) { return 0; }
        procedure e(x) { y = x.second; x.second = y; return y; }
        procedure f(x) { if x = 3 { } return 0; }
        procedure g(x) { y = a(x); return y; }""")

    def test_the_order_of_the_names(self):
        for names, expected in ((("a", "b", "c", "d", "e", "f"), (("a", "c"), ("b", "e"), ("d", "f"))),
                                (("f", "e", "d", "c", "b", "a"), (("f", "d"), ("e", "b"), ("c", "a"))),
                                (("c", "b", "d", "a"), (("c", "a"), ("b",), ("d",))),
                                (("a", "c"), (("a", "c"),)), (("a", "b", "d"), (("a",), ("b",), ("d",))),
                                (("e",), (("e",),)), ((), ())):
            self.exact(partition(self.PROGRAM, names, 1, 0), expected)

    def test_limits(self):
        self.exact(partition(self.PROGRAM, ("a", "g", "c"), 1, 0), (("a", "c"), ("g",)))
        self.exact(partition(self.PROGRAM, ("g", "a", "c"), 2, 0), (("g", "a", "c"),))

    def test_as_compare_tells(self):
        for seed in range(60):
            drawer = Drawer(seed, 6)
            first = drawer.program()[-1]
            program = drawer.made[:-1] + [first] + [variant(drawer, first, name) for name in ("p", "q", "r")]
            program, names = tuple(program), (first[1], "p", "q", "r")
            try:
                lots = partition(program, names, 2, 1)
            except TooMany:
                continue
            self.exact(sorted(name for lot in lots for name in lot), sorted(names))
            for lot in lots:
                for other in lots:
                    for a in lot:
                        for b in other:
                            self.exact(compare(program, a, b, 2, 1) is None, lot == other, (seed, a, b))

    def test_too_many(self):
        body = "".join(f"if x = {number} {{ }} if y = {number} {{ }} " for number in range(1, 14))
        program = parse(f"procedure a(x, y) {{ return 0; }} procedure many(x, y) {{ {body} return 0; }}")
        self.fault(TooMany, {}, partition, program, ("a", "many"), 1, 0)
        self.fault(TooMany, {}, partition, program, ("many", "a"), 1, 0)


if __name__ == "__main__":
    unittest.main()

import itertools
import unittest

import drawn
import stepwise
from heappacts.beside import independent, mixings, run_beside, serial
from heappacts.errors import TooMany
from heappacts.machine import run
from heappacts.parsing import parse
from helpers import Case

NAMES = ("f", "g")


class Straight(drawn.Drawer):
    """Draws procedures without calls and loops, of few statements, with few names."""

    def __init__(self, seed, most=4):
        super().__init__(seed, most)
        self.made = []

    def statement(self, place, outside):
        while True:
            made = super().statement(place, outside)
            if made[0] not in ("call", "while"):
                return made

    def both(self):
        found = []
        for name in NAMES:
            made = self.procedure(name)
            while stepwise.steps(made[3]) > 4:
                made = self.procedure(name)
            found.append(made)
        return tuple(found)


def two(first, second, parameters="x", results=("0", "0"), others=None):
    others = parameters if others is None else others
    return parse(f"procedure f({parameters}) {{ {first} return {results[0]}; }} "
                 f"procedure g({others}) {{ {second} return {results[1]}; }}")


class Mixings(Case):
    def test_few(self):
        self.exact(mixings(0, 0), ((),))
        self.exact(mixings(0, 3), ((1, 1, 1),))
        self.exact(mixings(2, 0), ((0, 0),))
        self.exact(mixings(1, 1), ((0, 1), (1, 0)))
        self.exact(mixings(2, 1), ((0, 0, 1), (0, 1, 0), (1, 0, 0)))
        self.exact(mixings(2, 2), ((0, 0, 1, 1), (0, 1, 0, 1), (0, 1, 1, 0), (1, 0, 0, 1), (1, 0, 1, 0), (1, 1, 0, 0)))

    def test_all_in_rising_order(self):
        for first in range(6):
            for second in range(6):
                found = mixings(first, second)
                self.exact(found, tuple(sorted(set(found))))
                self.exact(found, tuple(row for row in itertools.product((0, 1), repeat=first + second)
                                        if sum(row) == second))
                self.exact(found, tuple(stepwise.rising(first, second)))


class Run(Case):
    def runs(self, program, actuals, heap, mixing, expected):
        self.exact(run_beside(program, NAMES, actuals, heap, mixing), expected)

    def test_an_update_that_is_lost(self):
        program = two("y = x.first; z = new(y, 0); x.first = z;", "y = x.first; z = new(y, 1); x.first = z;", "x",
                      ("z", "z"))
        heap = ((5, 7, 8),)
        self.runs(program, ((5,), (5,)), heap, (), (
            "return", 100, "return", 101, ((5, 101, 8), (100, 7, 0), (101, 100, 1))))
        self.runs(program, ((5,), (5,)), heap, (1, 1, 1, 1, 0), (
            "return", 100, "return", 101, ((5, 100, 8), (100, 101, 0), (101, 7, 1))))
        self.runs(program, ((5,), (5,)), heap, (0, 1), (
            "return", 100, "return", 101, ((5, 101, 8), (100, 7, 0), (101, 7, 1))))
        self.runs(program, ((5,), (5,)), heap, (0, 1, 1, 1, 0, 0), (
            "return", 100, "return", 101, ((5, 100, 8), (100, 7, 0), (101, 7, 1))))

    def test_new_addresses(self):
        program = two("a = new(1, 1); a = new(2, 2); a = new(3, 3);", "a = new(4, 4); a = new(5, 5);", "x", ("a", "a"))
        for mixing in mixings(4, 3):
            self.runs(program, ((1,), (2,)), (), mixing, ("return", 104, "return", 103, (
                (100, 1, 1), (101, 4, 4), (102, 2, 2), (103, 5, 5), (104, 3, 3))))
        # the greatest word of both
        self.runs(program, ((1,), (300,)), (), (), ("return", 305, "return", 304, (
            (301, 1, 1), (302, 4, 4), (303, 2, 2), (304, 5, 5), (305, 3, 3))))
        self.runs(program, ((400,), (300,)), ((5, 6, 450),), (), ("return", 455, "return", 454, (
            (5, 6, 450), (451, 1, 1), (452, 4, 4), (453, 2, 2), (454, 5, 5), (455, 3, 3))))

    def test_a_side_that_has_ended_makes_no_steps(self):
        program = two("y = 0.first; x.first = 1;", "x.first = 2; x.second = 3;")
        for mixing in ((), (0,), (0, 0, 0, 0), (1, 1, 1, 0), (0, 0, 1, 0, 1, 0, 1, 0), (1, 0, 0, 0, 0)):
            self.runs(program, ((5,), (5,)), ((5, 0, 0),), mixing, ("null", None, "return", 0, ((5, 2, 3),)))

    def test_behind_its_end_side_0_goes_on_first(self):
        program = two("y = 1; x.first = 1;", "y = 1; x.first = 2;")
        for mixing, last in (((), 2), ((0,), 2), ((1,), 2), ((1, 1), 1), ((0, 0), 2), ((0, 1), 2), ((1, 1, 1), 1),
                             ((1, 0), 2), ((0, 1, 1), 1), ((1, 0, 0), 2)):
            self.runs(program, ((5,), (5,)), ((5, 0, 0),), mixing, ("return", 0, "return", 0, ((5, last, 0),)))

    def test_one_side_frees_what_the_other_one_accesses(self):
        program = two("free x;", "y = x.second;", "x", ("0", "y"))
        self.runs(program, ((5,), (5,)), ((5, 1, 2),), (), ("return", 0, "freed", None, ()))
        self.runs(program, ((5,), (5,)), ((5, 1, 2),), (1,), ("return", 0, "return", 2, ()))
        self.runs(program, ((5,), (6,)), ((5, 1, 2),), (), ("return", 0, "missing", None, ()))
        program = two("free x;", "free x;")
        self.runs(program, ((5,), (5,)), ((5, 1, 2),), (), ("return", 0, "freed", None, ()))
        self.runs(program, ((5,), (5,)), ((5, 1, 2),), (1,), ("freed", None, "return", 0, ()))

    def test_each_end_on_each_side(self):
        ends = {"return": "y = 5.first;", "missing": "y = 8.first;", "null": "y = 0.first;",
                "freed": "free 5; y = 5.first;"}
        for first, second in itertools.product(ends, repeat=2):
            body = ends[second].replace("5", "6")
            outcome = run_beside(two(ends[first], body), NAMES, ((1,), (1,)), ((5, 0, 0), (6, 0, 0)), ())
            self.exact((outcome[0], outcome[2]), (first, second))
            self.exact(outcome[1], 0 if first == "return" else None)
            self.exact(outcome[3], 0 if second == "return" else None)
            self.exact(outcome[4], tuple((place, 0, 0) for place, end in ((5, first), (6, second)) if end != "freed"))

    def test_names_and_arguments_of_its_own(self):
        program = two("y = x; x = 3;", "y = x; x = 4;", "x", ("y", "y"))
        for mixing in mixings(3, 3):
            self.runs(program, ((8,), (9,)), (), mixing, ("return", 8, "return", 9, ()))

    def test_a_procedure_beside_itself(self):
        program = two("x.first = 1; y = x.first;", "", "x")
        self.exact(run_beside(program, ("f", "f"), ((5,), (6,)), ((5, 0, 0), (6, 0, 0)), (0, 1)),
                   ("return", 0, "return", 0, ((5, 1, 0), (6, 1, 0))))

    def test_branches(self):
        program = two("if x = 1 { y = 1; y = 2; } else { y = 3; }", "x.first = 9;", "x", ("y", "0"))
        self.runs(program, ((1,), (5,)), ((5, 0, 0),), (0, 0, 1, 0, 1, 0, 0), ("return", 2, "return", 0, ((5, 9, 0),)))
        self.runs(program, ((2,), (5,)), ((5, 0, 0),), (1, 0, 0, 1, 0), ("return", 3, "return", 0, ((5, 9, 0),)))

    def test_alone_beside_nothing(self):
        for seed in range(100):
            drawer = Straight(seed)
            program = drawer.both()[:1] + parse("procedure g() { return 0; }")
            for _ in range(5):
                actual, heap = drawer.words(len(program[0][2])), drawer.heap()
                end, result, other_end, other, left = run_beside(program, NAMES, (actual, ()), heap, ())
                outcome = run(program, "f", actual, heap, 1, 0)
                self.exact((end, other_end, other), (outcome[0], "return", 0))
                # the new addresses of a side are each second one
                if "new" not in str(program):
                    self.exact(result, outcome[1])
                    if end == "return":
                        self.exact(left, outcome[2])

    def test_drawn(self):
        ends = set()
        for seed in range(150):
            drawer = Straight(seed)
            program = drawer.both()
            for _ in range(4):
                actuals = tuple(drawer.words(len(procedure[2])) for procedure in program)
                heap = drawer.heap()
                rows = mixings(*[stepwise.steps(procedure[3]) + 1 for procedure in program])
                for mixing in drawer.random.sample(rows, min(6, len(rows))) + [(), (1,), (0, 0, 1)]:
                    expected = stepwise.beside(program, actuals, stepwise.Words(actuals, heap), mixing)
                    self.runs(program, actuals, heap, mixing, expected)
                    ends.add((expected[0], expected[2]))
        self.assertGreater(len(ends), 12)

    def test_nothing_handed_in_is_changed(self):
        program, heap, mixing = two("x.first = 1; free x;", "x.second = 2;"), ((5, 6, 7),), (0, 1, 0)
        run_beside(program, NAMES, ((5,), (5,)), heap, mixing)
        self.exact((program, heap, mixing), (two("x.first = 1; free x;", "x.second = 2;"), ((5, 6, 7),), (0, 1, 0)))


def outcomes(program, actuals, heap, rows):
    return [run_beside(program, NAMES, actuals, heap, row) for row in rows]


class Apart(Case):
    def apart(self, program, work, expected):
        self.exact(work(program, NAMES), expected)
        orders = ((),) if work is independent else ((), (1,) * 9)
        self.exact(stepwise.first_apart(program, orders), expected)
        self.shown(program, work, expected)

    def shown(self, program, work, example):
        """What is given really shows it."""
        if example is not None:
            actuals, heap, mixing = example
            orders = ((),) if work is independent else ((), (1,) * 9)
            outcome = run_beside(program, NAMES, actuals, heap, mixing)
            self.assertNotIn(outcome, outcomes(program, actuals, heap, orders))


class Independent(Apart):
    def test_no_cell(self):
        self.apart(two("y = x;", "y = 1;"), independent, None)
        self.apart(two("", "", ""), independent, None)
        self.apart(two("y = new(x, x); y.first = 2; free y;", "y = new(x, 1); y.first = y;"), independent, None)

    def test_only_loads(self):
        self.apart(two("y = x.first; y = y.first;", "y = x.second;"), independent, None)

    def test_the_same_cell(self):
        self.apart(two("x.first = 1;", "x.first = 2;"), independent,
                   (((100,), (100,)), ((100, 101, 102),), (1, 0, 0, 1)))
        self.apart(two("x.first = 1;", "x.second = 2;"), independent, None)
        self.apart(two("x.first = 1;", "x.first = 1;"), independent, None)
        self.apart(two("x.first = 1;", "y = x.first;"), independent, None)
        self.apart(two("x.first = 1;", "y = x.first;", "x", ("0", "y")), independent,
                   (((100,), (100,)), ((100, 101, 102),), (1, 0, 0, 1)))

    def test_different_cells_only(self):
        self.apart(two("5.first = 1;", "6.first = 2;", ""), independent, None)
        self.apart(two("x.first = 1;", "5.first = 2;", "x", ("0", "0"), ""), independent,
                   (((5,), ()), ((5, 100, 101),), (1, 0, 0, 1)))

    def test_ends(self):
        self.apart(two("free x;", "y = x.first;"), independent,
                   (((100,), (100,)), ((100, 101, 102),), (1, 0, 0, 1)))
        self.apart(two("free x;", "free x;"), independent, (((100,), (100,)), ((100, 101, 102),), (1, 0, 0, 1)))

    def test_new_addresses_by_side(self):
        self.apart(two("x.first = 0; y = new(1, 1); x.first = y;", "x.second = 0; y = new(2, 2); x.second = y;"),
                   independent, None)


class Serial(Apart):
    def test_what_one_behind_the_other_gives_too(self):
        self.apart(two("x.first = 1;", "x.first = 2;"), serial, None)
        self.apart(two("free x;", "y = x.first;"), serial, None)

    def test_a_lost_update(self):
        self.apart(two("y = x.first; z = new(y, y); x.first = z;", "y = x.first; z = new(y, y); x.first = z;"), serial,
                   (((100,), (100,)), ((100, 101, 102),), (0, 0, 1, 0, 0, 1, 1, 1)))

    def test_between_two_stores(self):
        self.apart(two("x.first = 1; x.second = 1;", "y = x.first; z = x.second; u = new(y, z);", "x", ("0", "u")),
                   serial, (((100,), (100,)), ((100, 101, 102),), (0, 1, 1, 0, 0, 1, 1)))

    def test_with_itself(self):
        program = two("y = x.first; z = x.second; x.first = z; x.second = y;", "")
        self.exact(serial(program, ("f", "f")), stepwise.first_apart(program[:1] * 2, ((), (1,) * 9)))
        self.assertIsNotNone(serial(program, ("f", "f")))


class Drawn(Apart):
    def test_as_the_document_tells_it(self):
        found = {}
        for seed in range(240):
            # the later ones work on one cell, with loads and stores alone
            drawer = Straight(seed, 3 if seed < 120 else 4)
            program = drawer.both()
            while seed >= 120 and (not all(len(procedure[2]) == 1 for procedure in program)
                                   or any(kind in str(program) for kind in ("if", "set", "free"))):
                program = drawer.both()
            for work, orders in ((independent, ((),)), (serial, ((), (1,) * 9))):
                expected = stepwise.first_apart(program, orders)
                example = work(program, NAMES)
                self.exact(example, expected, seed)
                self.shown(program, work, example)
                found[(work, example is None)] = found.get((work, example is None), 0) + 1
        self.assertGreater(found[(independent, False)], 40)
        self.assertGreater(found[(serial, False)], 2)

    def test_all_mixings_agree_where_none_is_given(self):
        for seed in range(200):
            drawer = Straight(seed)
            program = drawer.both()
            rows = mixings(*[stepwise.steps(procedure[3]) + 1 for procedure in program])
            alike = [independent(program, NAMES) is None, serial(program, NAMES) is None]
            self.assertTrue(alike[1] or not alike[0])
            for _ in range(4 if alike[1] else 0):
                actuals = tuple(drawer.words(len(procedure[2]), (0, 1, 2, 3)) for procedure in program)
                heap = drawer.heap((0, 1, 2, 3))
                orders = outcomes(program, actuals, heap, ((), (1,) * 9))
                for outcome in outcomes(program, actuals, heap, drawer.random.sample(rows, min(15, len(rows)))):
                    self.assertIn(outcome, orders[:1] if alike[0] else orders, seed)


class Bounds(Case):
    def test_too_many_ways(self):
        loads = " ".join(f"{name} = {name}.first;" for name in "xyzw")
        program = two(loads, loads, "x, y, z, w")
        self.fault(TooMany, {}, independent, program, NAMES)
        self.fault(TooMany, {}, serial, program, NAMES)


if __name__ == "__main__":
    unittest.main()

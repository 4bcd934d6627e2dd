import random
import unittest

import slowcases
from drawn import Drawer, variant
from heappacts.errors import TooMany
from heappacts.finding import contracts
from heappacts.machine import first_new, run
from heappacts.parsing import parse
from heappacts.renaming import alike, compare_named, matched
from heappacts.sameness import compare
from helpers import Case, new, num, var
from starts import near

X, Y, Z, U, V, W = (var(number) for number in range(6))
M, N, O, P = (new(number) for number in range(4))
ZERO = num(0)


class Matched(Case):
    def gives(self, expected, result, cells, other_result, other_cells, roots=()):
        self.exact(matched(result, cells, other_result, other_cells, roots), expected)
        self.exact(slowcases.alike_but_for_names(result, cells, other_result, other_cells, roots), expected is not None)
        turned = matched(other_result, other_cells, result, cells, roots)
        self.exact(turned, None if expected is None else tuple((b, a) for a, b in expected))

    def test_results(self):
        self.gives((), X, (), X, ())
        self.gives((), num(3), (), num(3), ())
        self.gives(None, X, (), Y, ())
        self.gives(None, num(3), (), num(4), ())
        self.gives(None, num(3), (), X, ())
        self.gives(((M, M),), M, (), M, ())
        self.gives(((M, N),), M, (), N, ())
        self.gives(None, M, (), X, ())
        self.gives(None, X, (), M, ())

    def test_turned_round(self):
        cells = ((M, N, ZERO), (N, ZERO, ZERO))
        self.gives(((M, N), (N, M)), M, cells, N, ((N, M, ZERO), (M, ZERO, ZERO)))
        self.gives(((M, O), (N, M)), M, cells, O, ((N, num(9), X), (M, ZERO, ZERO), (O, M, ZERO)))
        self.gives(None, M, cells, M, ((M, ZERO, N), (N, ZERO, ZERO)))

    def test_a_new_address_with_an_old_term(self):
        self.gives(None, M, ((M, X, ZERO),), M, ((M, M, ZERO),))
        self.gives(None, M, ((M, num(3), ZERO),), M, ((M, N, ZERO),))
        self.gives(None, X, ((X, X, ZERO),), X, ((X, M, ZERO),))

    def test_a_new_address_with_two_others(self):
        self.gives(None, M, ((M, N, N),), M, ((M, N, O),))
        self.gives(None, M, ((M, N, O),), M, ((M, N, N),))
        self.gives(None, M, ((M, M, ZERO),), M, ((M, N, ZERO),))
        self.gives(((M, M), (N, O), (O, N)), M, ((M, N, O),), M, ((M, O, N),))

    def test_cells_at_one_of_the_two_only(self):
        self.gives(None, M, ((M, X, X),), M, ())
        self.gives(None, M, ((M, N, N), (N, X, X)), M, ((M, N, N),))
        self.gives(None, X, ((X, Y, Y),), X, ())
        self.gives(None, M, ((M, X, ZERO), (X, Y, Y)), M, ((M, X, ZERO),))
        self.gives(((M, M),), M, ((M, X, ZERO),), M, ((M, X, ZERO),))

    def test_roots(self):
        cells, other = ((X, M, ZERO), (M, num(1), num(1))), ((X, N, ZERO), (N, num(1), num(1)))
        self.gives((), ZERO, cells, ZERO, other)
        self.gives(((M, N),), ZERO, cells, ZERO, other, (X,))
        self.gives((), ZERO, cells, ZERO, other, (Y,))
        self.gives((), ZERO, cells, ZERO, ((X, ZERO, ZERO),), (Y, num(5)))
        self.gives(None, ZERO, cells, ZERO, ((X, ZERO, ZERO),), (Y, X))
        self.gives(None, ZERO, cells, ZERO, (), (X,))
        self.gives(None, ZERO, ((num(5), M, ZERO),), ZERO, ((num(5), ZERO, ZERO),), (num(5),))

    def test_what_nothing_leads_to(self):
        self.gives((), ZERO, ((M, N, N), (N, M, M)), ZERO, ())
        self.gives(((M, M),), M, ((M, X, ZERO), (N, M, M)), M, ((M, X, ZERO), (O, M, ZERO), (P, O, O)))

    def test_old_cells_lead_on(self):
        cells = ((X, Y, ZERO), (Y, M, ZERO), (M, ZERO, ZERO))
        self.gives(((M, O),), ZERO, cells, ZERO, ((O, ZERO, ZERO), (Y, O, ZERO), (X, Y, ZERO)), (X,))
        self.gives(None, ZERO, cells, ZERO, ((O, num(1), ZERO), (Y, O, ZERO), (X, Y, ZERO)), (X,))
        self.gives(((M, M),), M, ((M, X, ZERO), (X, num(1), num(2))), M, ((X, num(1), num(2)), (M, X, ZERO)))
        self.gives(None, M, ((M, X, ZERO), (X, num(1), num(2))), M, ((X, num(1), num(3)), (M, X, ZERO)))

    def test_rings(self):
        self.gives(((M, N),), M, ((M, M, M),), N, ((N, N, N),))
        self.gives(((M, M), (N, N)), M, ((M, N, M), (N, M, N)), M, ((M, N, M), (N, M, N)))
        self.gives(None, M, ((M, N, M), (N, M, N)), M, ((M, N, M), (N, M, M)))
        # a ring of two, and one of one
        self.gives(None, M, ((M, N, ZERO), (N, M, ZERO)), M, ((M, M, ZERO),))
        # an old ring
        self.gives((), X, ((X, X, Y), (Y, X, X)), X, ((X, X, Y), (Y, X, X)), (Y,))

    def test_the_order_of_the_pairs(self):
        cells = ((M, N, O), (N, P, M), (X, O, P))
        other = ((X, N, M), (P, O, N), (O, M, P))
        # the result, then the root's fields behind it, then the fields in the order of the pairs
        self.gives(((M, P), (N, O), (O, N), (P, M)), M, cells, P, other, (Y, X))
        self.gives(((O, N), (P, M)), X, cells, X, other)
        self.gives(((O, N), (P, M)), ZERO, cells, ZERO, other, (X,))

    def test_drawn(self):
        found = {}
        for seed in range(6000):
            draw = random.Random(seed)
            many = draw.randint(1, 3)

            def term():
                return draw.choice([M, N, O, P][:many] * 2 + [X, Y, ZERO])

            def heap():
                places = draw.sample([M, N, O, P][:many] + [X, Y], draw.randint(0, many + 2))
                return tuple((place, term(), term()) for place in places)
            cells, result, roots = heap(), term(), tuple(draw.sample((X, Y, ZERO, num(4)), draw.randint(0, 3)))
            if draw.random() < 0.7:
                row = draw.sample((M, N, O, P), 4)
                names = dict(zip((M, N, O, P), row))
                other = [tuple(names.get(each, each) for each in cell) for cell in cells]
                draw.shuffle(other)
                if other and draw.random() < 0.5:
                    other[0] = other[0][:2] + (term(),)
                other, other_result = tuple(other), names.get(result, result)
            else:
                other, other_result = heap(), term()
            expected = slowcases.alike_but_for_names(result, cells, other_result, other, roots)
            pairs = matched(result, cells, other_result, other, roots)
            self.exact(pairs is not None, expected, (result, cells, other_result, other, roots))
            found[expected] = found.get(expected, 0) + 1
        self.assertGreater(min(found.values()), 1500)


def contract(result=ZERO, gives=(), needs=((X, Y, Z),), arguments=(X,), end="return", where=(), news=3):
    return ("contract", arguments, needs, (), (), end, result, gives, where, news)


class Alike(Case):
    def test_ends(self):
        null, deep = [contract(None, (), (), (ZERO,), end, (("f", 0),), 0) for end in ("null", "deep")]
        elsewhere = contract(None, (), (), (ZERO,), "null", (("g", 3),), 0)
        returned = contract(ZERO, (), (), (ZERO,))
        self.exact(alike(null, null), True)
        self.exact(alike(null, elsewhere), True)
        self.exact(alike(null, deep), False)
        self.exact(alike(null, returned), False)
        self.exact(alike(returned, null), False)

    def test_results_and_cells(self):
        old = (X, Y, Z)
        self.exact(alike(contract(M, (old, (M, X, ZERO))), contract(N, ((N, X, ZERO), old))), True)
        self.exact(alike(contract(M, (old, (M, X, ZERO))), contract(N, ((N, Y, ZERO), old))), False)
        self.exact(alike(contract(Y, (old,)), contract(Z, (old,))), False)
        self.exact(alike(contract(Y, (old,)), contract(Y, ())), False)
        self.exact(alike(contract(Y, ()), contract(Y, ())), True)

    def test_old_cells_in_another_order(self):
        needs = ((X, Y, Z), (Y, U, V))
        self.exact(alike(contract(ZERO, needs, needs), contract(ZERO, needs[::-1], needs)), True)
        self.exact(alike(contract(ZERO, needs, needs), contract(ZERO, ((X, Y, Z), (Y, V, U)), needs)), False)

    def test_a_cell_that_nothing_leads_to(self):
        old = (X, Y, Z)
        self.exact(alike(contract(ZERO, (old, (M, X, X))), contract(ZERO, (old,))), True)
        self.exact(alike(contract(ZERO, ((X, M, Z), (M, X, X))), contract(ZERO, ((X, M, Z),))), False)
        self.exact(alike(contract(ZERO, ((X, M, Z), (M, X, X))), contract(ZERO, ((X, N, Z), (N, X, X), (M, N, N)))), True)

    def test_the_cells_of_the_start_are_held(self):
        # not reached from the result and the arguments any more
        needs = ((X, Y, Z), (Y, U, V))
        gives = ((X, ZERO, ZERO), (Y, M, ZERO), (M, num(1), num(1)))
        others = ((X, ZERO, ZERO), (Y, N, ZERO), (N, num(2), num(1)))
        self.exact(alike(contract(ZERO, gives, needs), contract(ZERO, others, needs)), False)
        self.exact(alike(contract(ZERO, gives, needs), contract(ZERO, others[:2] + ((N, num(1), num(1)),), needs)), True)
        self.exact(alike(contract(ZERO, gives, needs), contract(ZERO, gives[:1], needs)), False)


def two(first, second, parameters="x", result="0"):
    return parse(f"procedure f({parameters}) {{ {first} return {result}; }} "
                 f"procedure g({parameters}) {{ {second} return {result}; }}")


def runs_alike(program, name, other, actual, heap, depth, turns):
    """[r2] of the runs of the machine."""
    end, result, cells, _ = run(program, name, actual, heap, depth, turns)
    other_end, other_result, other_cells, _ = run(program, other, actual, heap, depth, turns)
    if end != "return" or other_end != "return":
        return end == other_end
    # the cells of the start's addresses are held, and all that are reached from them
    roots = actual + tuple(cell[0] for cell in heap)
    return slowcases.alike_but_for_names(result, cells, other_result, other_cells, roots, first_new(actual, heap))


class CompareNamed(Case):
    def found(self, program, expected, name="f", other="g", depth=1, turns=0):
        self.exact(compare_named(program, name, other, depth, turns), expected)
        self.exact(slowcases.compare_named(program, name, other, depth, turns), expected)
        if expected is not None:
            self.assertFalse(runs_alike(program, name, other, *expected, depth, turns), expected)

    def test_a_cell_that_is_made_ahead_and_held_by_nothing(self):
        program = two("y = new(x, 1);", "z = new(0, 0); y = new(x, 1);", "x", "y")
        self.exact(compare(program, "f", "g", 1, 0), ((100,), ()))
        self.found(program, None)
        self.found(program, None, "g", "f")
        program = two("y = new(x, 1);", "z = new(0, 0); free z; y = new(x, 1);", "x", "y")
        self.found(program, None)

    def test_cells_made_in_another_order(self):
        program = two("y = new(x, 1); z = new(y, 2); y = new(z, y);", "z = new(0, 2); y = new(x, 1); z.first = y; "
                      "y = new(z, y);", "x", "y")
        self.exact(compare(program, "f", "g", 1, 0), ((100,), ()))
        self.found(program, None)

    def test_what_is_held_counts(self):
        program = two("y = new(x, 1);", "y = new(x, 2);", "x", "y")
        self.found(program, ((100,), ()))
        program = two("y = new(x, 1); x.first = y;", "y = new(x, 2); x.first = y;")
        self.found(program, ((100,), ((100, 101, 102),)))
        program = two("y = new(x, 1); z = x.first;", "y = new(x, 2); z = x.first;")
        self.found(program, None)
        program = two("z = x.first; x.first = 0;", "z = x.first; x.first = 0; free z;", "x", "0")
        self.found(program, ((100,), ((100, 100, 101),)))
        program = two("y = new(x, 1); z = x.first; x.first = y;", "y = new(x, 1); z = x.first; x.first = y; x.second = z;")
        self.found(program, ((100,), ((100, 101, 102),)))

    def test_ends(self):
        program = two("y = new(0, 0); free y; y = y.first;", "z = 1; y = new(0, 0); free y; free y;")
        self.found(program, None)
        program = two("y = new(0, 0); free y; y = y.first;", "y = 0.first;")
        self.found(program, ((100,), ()))

    def test_drawn(self):
        found = {}
        for seed in range(500):
            drawer = Drawer(seed, 8)
            program = drawer.program()
            name = program[-1][1]
            program += (variant(drawer, program[-1], "other"),)
            depth, turns = drawer.random.randint(1, 3), drawer.random.randint(0, 2)
            try:
                expected = slowcases.compare_named(program, name, "other", depth, turns)
            except TooMany:
                self.fault(TooMany, {}, compare_named, program, name, "other", depth, turns)
                continue
            self.exact(compare_named(program, name, "other", depth, turns), expected, seed)
            whole = compare(program, name, "other", depth, turns)
            if whole is None:
                self.exact(expected, None)
            if expected is not None:
                self.assertFalse(runs_alike(program, name, "other", *expected, depth, turns), seed)
            found[(whole is None, expected is None)] = found.get((whole is None, expected is None), 0) + 1
        for key in ((True, True), (False, True), (False, False)):
            self.assertGreater(found[key], 15)

    def test_none_where_drawn_starts_are_alike(self):
        many = 0
        for seed in range(200):
            drawer = Drawer(seed, 7)
            program = drawer.program()
            name = program[-1][1]
            program += (variant(drawer, program[-1], "other"),)
            try:
                if compare_named(program, name, "other", 2, 1) is not None:
                    continue
                found = contracts(program, name, 2, 1) + contracts(program, "other", 2, 1)
            except TooMany:
                continue
            for made in found:
                for actual, heap in near(drawer, made):
                    many += 1
                    self.assertTrue(runs_alike(program, name, "other", actual, heap, 2, 1), (seed, actual, heap))
        self.assertGreater(many, 3000)

    def test_too_many(self):
        rows = ["".join(f"if {name} = {number} {{ }} " for number in range(1, many))
                for name, many in (("x", 19), ("y", 79))]
        self.fault(TooMany, {}, compare_named, two(*rows, "x, y"), "f", "g", 1, 0)


if __name__ == "__main__":
    unittest.main()

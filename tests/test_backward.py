import unittest

import slowcases
from drawn import Drawer
from heappacts.abduction import holds
from heappacts.backward import before, needs_met
from heappacts.errors import TooMany
from heappacts.machine import first_new, run
from heappacts.parsing import parse
from helpers import Case, new, num, var

X, Y, Z, U, V, W = (var(number) for number in range(6))
ZERO = num(0)


def one(body, result="0", parameters="x"):
    return parse(f"procedure f({parameters}) {{ {body} return {result}; }}")


def formula(cells=(), differ=()):
    return ("formula", cells, differ)


def need(number, arguments, cells=(), differ=(), equal=()):
    return ("need", number, arguments, cells, differ, equal)


class Before(Case):
    def found(self, program, after, *expected, depth=1, turns=0, name="f"):
        self.exact(before(program, name, depth, turns, after), tuple(expected))
        self.exact(slowcases.before(program, name, depth, turns, after), tuple(expected))


class Simple(Before):
    def test_no_cell(self):
        self.found(one("", "x"), formula(), need(0, (X,)))
        self.found(one("", "0", ""), formula(), need(0, ()))
        # contracts that do not return are no needs; the numbers stay
        self.found(one("y = x.first;"), formula(), need(0, (X,), ((X, Y, Z),)))
        self.found(one("if x = 1 { y = 0.first; }"), formula(), need(1, (X,), (), ((X, num(1)),)))
        self.found(one("y = 0.first;"), formula())

    def test_numbers_rise(self):
        self.found(one("if x = 1 { } if x = 2 { y = 0.first; } if x = 3 { }"), formula(),
                   need(0, (num(1),)), need(2, (num(3),)),
                   need(3, (X,), (), ((X, num(1)), (X, num(2)), (X, num(3)))))

    def test_cells_in_the_rest_of_the_heap(self):
        self.found(one(""), formula(((X, Y, num(5)),)), need(0, (X,), ((X, ZERO, num(5)),)))
        self.found(one("", "x"), formula(((Y, X, ZERO),)), need(0, (X,), ((X, X, ZERO),)))
        self.found(one(""), formula(((Y, X, ZERO),)))
        self.found(one("y = x.first;"), formula(((Z, U, U),)),
                   need(0, (X,), ((X, Y, Y),), (), ((2, X), (3, Y))),
                   need(0, (X,), ((X, Y, Z), (U, V, V)), (), ((2, U), (3, V))))

    def test_cells_that_the_run_changed(self):
        self.found(one("x.first = 5;"), formula(((X, num(5), Z),)), need(0, (X,), ((X, Y, Z),), (), ((2, Z),)))
        self.found(one("x.first = 5;"), formula(((X, num(6), Z),)))
        self.found(one("x.first = 5;"), formula(((X, Z, num(6)),)), need(0, (X,), ((X, Y, num(6)),), (), ((2, num(5)),)))

    def test_cells_that_the_run_freed(self):
        self.found(one("free x;"), formula(((X, Z, Z),)))
        self.found(one("free x;"), formula(((Z, Z, Z),)), need(0, (X,), ((X, Y, Z), (U, U, U)), (), ((2, U),)))

    def test_cells_that_the_run_made(self):
        program = one("y = new(x, 1);", "y")
        self.found(program, formula(((Y, X, num(1)),)), need(0, (X,)))
        self.found(program, formula(((Y, ZERO, num(1)),)), need(0, (ZERO,)))
        self.found(program, formula(((Y, X, num(2)),)))
        self.found(program, formula(((Y, Z, U),)), need(0, (X,), (), (), ((2, X), (3, num(1)))))
        # another one is never a new address
        self.found(program, formula(((Z, X, num(1)),)), need(0, (X,), ((Y, X, num(1)),), (), ((2, Y),)))
        program = one("y = new(x, 1); z = new(y, y);", "z")
        self.found(program, formula(((Y, Z, Z),)))
        self.found(program, formula(((Y, Y, Y),)))

    def test_two_cells_are_two(self):
        self.found(one("y = x.first;"), formula(((X, Z, U), (X, Z, U))))
        self.found(one("y = x.first;"), formula(((X, Z, Z), (V, Z, Z))),
                   need(0, (X,), ((X, Y, Y), (Z, Y, Y)), (), ((2, Y), (4, Z))))

    def test_pairs(self):
        self.found(one("", "x"), formula((), ((X, Y),)))
        self.found(one("y = x.first;", "y"), formula((), ((X, Y),)), need(0, (X,), ((X, Y, Z),), ((X, Y),)))
        self.found(one("y = x.first;", "y"), formula((), ((X, ZERO),)), need(0, (X,), ((X, Y, Z),)))
        self.found(one("y = new(0, 0);", "y"), formula((), ((X, Y), (Y, X), (Y, Z), (Z, X), (X, Z))),
                   need(0, (X,), (), ((Y, X),), ((2, Y),)))
        self.found(one("if x = 3 { }"), formula((), ((X, num(3)),)), need(1, (X,), (), ((X, num(3)),)))
        self.found(one(""), formula((), ((X, num(4)), (num(3), num(4)), (num(4), X))), need(0, (X,), (), ((X, num(4)),)))
        self.found(one(""), formula((), ((num(4), num(4)),)))

    def test_the_others(self):
        # named by their numbers, rising; gaps are no variables
        self.found(one(""), formula((), ((var(9), var(4)),)), need(0, (X,), (), ((Y, Z),), ((4, Z), (9, Y))))
        self.found(one("", "x"), formula(((Y, var(7), var(5)),)), need(0, (X,), ((X, Y, Z),), (), ((5, Z), (7, Y))))
        self.found(one("", "4", ""), formula(((X, Y, Z),)), need(0, (), ((num(4), X, Y),), (), ((1, X), (2, Y))))
        self.found(one("y = x.first;", "y"), formula(((X, Z, U),), ((U, Z),)),
                   need(0, (X,), ((X, Y, Z),), ((Z, Y),), ((2, Y), (3, Z))))

    def test_the_numbering_of_the_variables(self):
        # arguments, cells, pairs, the terms of the others
        self.found(one("a = y.first;", "a", "x, y"), formula(((X, var(8), Y),), ((var(6), var(3)),)),
                   need(0, (X, X), ((X, Y, X),), ((Z, U),), ((3, U), (6, Z), (8, Y))),
                   need(0, (X, Y), ((Y, Z, U), (X, V, Y)), ((W, var(6)),), ((3, var(6)), (6, W), (8, V))))

    def test_calls_and_limits(self):
        program = parse("procedure g(x) { x = x.second; return x; } procedure f(x) { while x != 0 { x = g(x); } return x; }")
        self.found(program, formula(), need(0, (ZERO,)), depth=2)
        self.found(program, formula(), need(0, (ZERO,)), need(1, (X,), ((X, Y, ZERO),)), depth=2, turns=1)
        self.found(program, formula(), need(0, (ZERO,)), depth=1, turns=1)

    def test_too_many_contracts(self):
        body = "".join(f"if x = {number} {{ }} if y = {number} {{ }} " for number in range(1, 14))
        self.fault(TooMany, {}, before, one(body, "0", "x, y"), "f", 1, 0, formula())


class Met(Case):
    def met(self, expected, made, actual, words, heap):
        self.exact(needs_met(made, actual, words, heap), expected)

    def test_arguments(self):
        self.met(True, need(0, (X, Y)), (1, 1), (), ())
        self.met(True, need(0, (X, X)), (1, 1), (), ())
        self.met(False, need(0, (X, X)), (1, 2), (), ())
        self.met(True, need(0, (num(3), X)), (3, 2), (), ())
        self.met(False, need(0, (num(3), X)), (2, 3), (), ())
        self.met(True, need(0, ()), (), (), ())

    def test_the_others(self):
        made = need(0, (X,), (), (), ((2, X), (4, Y), (5, num(7))))
        self.met(True, made, (1,), ((2, 1), (4, 9), (5, 7)), ())
        self.met(True, made, (1,), ((2, 1), (3, 8), (4, 1), (5, 7), (6, 1)), ())
        self.met(False, made, (1,), ((2, 2), (4, 9), (5, 7)), ())
        self.met(False, made, (1,), ((2, 1), (4, 9), (5, 6)), ())

    def test_cells(self):
        made = need(0, (X,), ((X, Y, Z), (Y, U, U)))
        self.met(True, made, (5,), (), ((5, 6, 1), (6, 2, 2)))
        self.met(True, made, (5,), (), ((3, 1, 1), (5, 6, 1), (6, 5, 5)))
        self.met(False, made, (5,), (), ((5, 6, 1), (6, 2, 3)))
        self.met(False, made, (5,), (), ((5, 6, 1),))
        self.met(False, made, (6,), (), ((5, 6, 1), (6, 2, 2)))
        self.met(False, made, (5,), (), ((5, 5, 5),))
        self.met(False, made, (0,), (), ((5, 6, 1), (6, 2, 2)))
        behind = need(0, (X,), ((X, Y, num(3)), (Z, Y, Y)), (), ((2, Z),))
        self.met(True, behind, (5,), ((2, 6),), ((5, 1, 3), (6, 1, 1)))
        self.met(False, behind, (5,), ((2, 5),), ((5, 3, 3), (6, 1, 1)))
        self.met(False, behind, (5,), ((2, 7),), ((5, 1, 3), (6, 1, 1)))

    def test_pairs(self):
        made = need(0, (X,), ((X, Y, Z),), ((Y, Z), (X, num(4)), (Z, U)), ((3, U),))
        self.met(True, made, (5,), ((3, 3),), ((5, 1, 2),))
        self.met(False, made, (5,), ((3, 2),), ((5, 1, 2),))
        self.met(False, made, (5,), ((3, 3),), ((5, 1, 1),))
        self.met(False, made, (4,), ((3, 3),), ((4, 1, 2),))

    def test_nothing_handed_in_is_changed(self):
        made, words, heap = need(0, (X,), ((X, Y, Z),), ((Y, Z),), ((2, Y),)), ((2, 1),), ((5, 1, 2),)
        needs_met(made, (5,), words, heap)
        self.exact((made, words, heap), (need(0, (X,), ((X, Y, Z),), ((Y, Z),), ((2, Y),)), ((2, 1),), ((5, 1, 2),)))


class Drawn(Case):
    """For any start just one need is met if the formula is true after the run, none otherwise."""

    def drawn_formula(self, drawer, many):
        draw = drawer.random
        top = many + 1 + draw.randint(0, 2)

        def term():
            return var(draw.randrange(top)) if draw.random() < 0.85 else num(draw.choice((0, 1, 2)))
        cells = tuple((term(), term(), term()) for _ in range(draw.choice((0, 1, 1, 2, 3))))
        return formula(cells, tuple((term(), term()) for _ in range(draw.choice((0, 0, 1, 2)))))

    def one_is_met(self, program, name, depth, turns, after, needs, actual, words, heap):
        outcome = run(program, name, actual, heap, depth, turns)
        true = False
        if outcome[0] == "return":
            told = tuple(enumerate(actual)) + ((len(actual), outcome[1]),) + words
            true = holds(after, told, outcome[2])
        met = [made for made in needs if needs_met(made, actual, words, heap)]
        self.exact(len(met), 1 if true else 0, (name, after, actual, words, heap))
        return true

    def own(self, made):
        """A start that has just what a need tells."""
        def word(term):
            return 100 + term[1] if term[0] == "var" else term[1]
        heap = tuple(sorted(tuple(word(term) for term in cell) for cell in made[3]))
        return tuple(word(term) for term in made[2]), tuple((k, word(term)) for k, term in made[5]), heap

    def test_drawn(self):
        counts = {True: 0, False: 0}
        for seed in range(700):
            drawer = Drawer(seed, 8)
            program = drawer.program()
            _, name, parameters, _, _ = program[-1]
            many = len(parameters)
            depth, turns = drawer.random.randint(1, 3), drawer.random.randint(0, 2)
            after = self.drawn_formula(drawer, many)
            try:
                needs = before(program, name, depth, turns, after)
            except TooMany:
                continue
            numbers = [made[1] for made in needs]
            self.exact(numbers, sorted(numbers))
            if len(after[1]) < 3:
                self.exact(needs, slowcases.before(program, name, depth, turns, after), seed)
            others = sorted({number for number in slowcases.numbers(after[1:]) if number > many})
            starts = []
            for _ in range(10):
                actual, heap = drawer.words(many), drawer.heap()
                pool = [word for word in (0, 1, 2, 3, 4, 50, 101) if word < first_new(actual, heap)]
                starts.append((actual, tuple((k, drawer.random.choice(pool)) for k in others), heap))
            for made in needs[:30]:
                actual, words, heap = self.own(made)
                # a word that nothing but the formula has may be one of the new ones
                if all(word < first_new(actual, heap) for _, word in words):
                    starts.append((actual, words, heap))
            for actual, words, heap in starts:
                counts[self.one_is_met(program, name, depth, turns, after, needs, actual, words, heap)] += 1
        self.assertGreater(counts[True], 300)
        self.assertGreater(counts[False], 3000)


if __name__ == "__main__":
    unittest.main()

import itertools
import unittest

from drawn import Terms
from heappacts.abduction import abduce, applies, holds
from helpers import Case, num, var

X, Y, Z, U, V, W = (var(number) for number in range(6))


def formula(cells=(), differ=()):
    return ("formula", tuple(cells), tuple(differ))


def solution(equal=(), differ=(), missing=(), left=()):
    return ("solution", tuple(equal), tuple(differ), tuple(missing), tuple(left))


class Abducing(Case):
    def found(self, have, need, *expected):
        self.exact(abduce(have, need), tuple(expected))

    def test_nothing_on_both_sides(self):
        self.found(formula(), formula(), solution())

    def test_nothing_is_needed(self):
        cells = ((X, Y, Z), (Y, num(1), num(0)))
        self.found(formula(cells), formula(), solution(left=cells))

    def test_nothing_is_there(self):
        cells = ((X, Y, Z), (Y, num(1), num(0)))
        self.found(formula(), formula(cells), solution(missing=cells))

    def test_the_very_cell(self):
        self.found(formula([(X, Y, Z)]), formula([(X, Y, Z)]), solution())

    def test_the_same_address_has_the_same_fields(self):
        self.found(formula([(X, Y, num(4))]), formula([(X, Z, U)]), solution([(2, Y), (3, num(4))]))
        self.found(formula([(X, Z, num(4))]), formula([(X, Y, U)]), solution([(2, Y), (3, num(4))]))
        self.found(formula([(X, num(3), num(4))]), formula([(X, num(5), Y)]))

    def test_another_address_may_be_the_same_one(self):
        self.found(formula([(X, Y, Z)]), formula([(U, V, W)]),
                   solution([(3, X), (4, Y), (5, Z)]),
                   solution(missing=[(U, V, W)], left=[(X, Y, Z)]))
        self.found(formula([(U, V, W)]), formula([(X, Y, Z)]),
                   solution([(3, X), (4, Y), (5, Z)]),
                   solution(missing=[(X, Y, Z)], left=[(U, V, W)]))

    def test_constants_as_addresses(self):
        self.found(formula([(num(7), X, Y)]), formula([(num(8), X, Y)]),
                   solution(missing=[(num(8), X, Y)], left=[(num(7), X, Y)]))
        self.found(formula([(num(7), X, Y)]), formula([(Z, num(1), num(2))]),
                   solution([(0, num(1)), (1, num(2)), (2, num(7))]),
                   solution(missing=[(Z, num(1), num(2))], left=[(num(7), X, Y)]))

    def test_more_needed_than_there_is(self):
        self.found(formula([(X, Y, Y)]), formula([(X, Y, Y), (Y, Z, Z)]), solution(missing=[(Y, Z, Z)]))
        self.found(formula([(X, num(0), num(0))]), formula([(Y, num(0), num(0)), (Z, num(0), num(0))]),
                   solution([(1, X)], missing=[(Z, num(0), num(0))]),
                   solution([(2, X)], missing=[(Y, num(0), num(0))]),
                   solution(missing=[(Y, num(0), num(0)), (Z, num(0), num(0))], left=[(X, num(0), num(0))]))

    def test_pairs_of_both(self):
        self.found(formula([(X, Y, Y)], [(Y, num(3))]), formula([(X, Z, U)], [(Z, num(4)), (U, X)]),
                   solution([(2, Y), (3, Y)], [(Y, num(3)), (Y, num(4)), (Y, X)]))
        # a pair that certainly differs, and one that stood earlier
        self.found(formula([(X, Y, Y)], [(X, num(0)), (Y, num(3))]), formula([(X, Z, Z)], [(num(3), Z), (X, Z)]),
                   solution([(2, Y)], [(Y, num(3)), (X, Y)]))
        self.found(formula([(X, Y, Y)]), formula([(Z, Y, Y)], [(X, Z)]), solution(missing=[(Z, Y, Y)], left=[(X, Y, Y)]))
        self.found(formula([], [(X, Y)]), formula([], [(Y, X)]), solution([], [(X, Y)]))

    def test_pairs_forbid(self):
        self.found(formula([(X, Y, Y)], [(Y, num(3))]), formula([(X, num(3), Z)]))
        self.found(formula([(X, Y, Y)], [(X, Z)]), formula([(Z, Y, Y)]),
                   solution([], [], [(Z, Y, Y)], [(X, Y, Y)]))
        self.found(formula([(X, Y, Y)]), formula([(X, Z, U)], [(Z, U)]))

    def test_formulas_that_can_never_be_true(self):
        fine = formula([(X, Y, Z)])
        for never in (formula([(X, Y, Z), (X, U, V)]), formula([(num(0), Y, Z)]), formula([], [(X, X)]),
                      formula([(X, Y, Z)], [(num(3), num(3))]), formula([(num(7), X, X), (num(7), X, X)]),
                      formula([(V, Y, Z), (U, Y, Z), (V, Y, Z)])):
            self.found(never, fine)
            self.found(fine, never)
            self.found(formula(), never)
            self.found(never, formula())
            self.found(never, never)

    def test_variables_of_pairs_only_and_gaps_in_the_numbers(self):
        self.found(formula([(var(30), var(5), var(5))], [(var(39), var(2))]), formula([(var(8), var(5), var(39))]),
                   solution([(30, var(8)), (39, var(5))], [(var(5), var(2))]),
                   solution([], [(var(39), var(2))], [(var(8), var(5), var(39))], [(var(30), var(5), var(5))]))

    def test_the_order_is_that_of_composing(self):
        have = formula([(X, num(1), num(1)), (Y, num(1), num(1))])
        need = formula([(Z, num(1), num(1)), (U, num(1), num(1))])
        self.exact([(found[1], len(found[3]), len(found[4])) for found in abduce(have, need)], [
            (((2, X), (3, Y)), 0, 0), (((2, X),), 1, 1), (((2, Y), (3, X)), 0, 0), (((2, Y),), 1, 1),
            (((3, X),), 1, 1), (((3, Y),), 1, 1), ((), 2, 2)])


class Holding(Case):
    def test_cells(self):
        heap = ((3, 5, 0), (5, 3, 3))
        for words, expected in (
                (((0, 3), (1, 5), (2, 0)), True), (((2, 3), (1, 3), (0, 5)), True), (((0, 3), (1, 5), (2, 1)), False),
                (((0, 3), (1, 0), (2, 5)), False), (((0, 4), (1, 5), (2, 0)), False), (((0, 0), (1, 0), (2, 0)), False)):
            self.exact(holds(formula([(X, Y, Z)]), words, heap), expected)
        self.exact(holds(formula(), (), ()), True)
        self.exact(holds(formula(), (), heap), True)
        self.exact(holds(formula([(num(3), num(5), num(0))]), (), heap), True)
        self.exact(holds(formula([(num(3), num(5), num(0))]), (), ()), False)

    def test_cells_at_one_address(self):
        heap = ((3, 5, 0), (5, 3, 3))
        two = formula([(X, Y, Z), (Y, U, V)])
        self.exact(holds(two, ((0, 3), (1, 5), (2, 0), (3, 3), (4, 3)), heap), True)
        self.exact(holds(two, ((0, 3), (1, 5), (2, 0), (3, 3), (4, 0)), heap), False)
        twice = formula([(X, num(5), num(0)), (Y, num(5), num(0))])
        self.exact(holds(twice, ((0, 3), (1, 3)), heap), False)
        self.exact(holds(twice, ((0, 3), (1, 4)), heap + ((9, 1, 1),)), False)
        self.exact(holds(twice, ((0, 3), (1, 4)), ((3, 5, 0), (4, 5, 0))), True)

    def test_pairs(self):
        for a, b, expected in ((X, Y, True), (X, Z, False), (X, num(7), False), (num(8), Y, False), (X, num(8), True),
                               (Z, X, False), (num(1), num(1), False), (num(1), num(2), True)):
            self.exact(holds(formula([], [(a, b)]), ((0, 7), (1, 8), (2, 7)), ()), expected)
            self.exact(holds(formula([], [(X, Y), (a, b)]), ((0, 7), (1, 8), (2, 7)), ()), expected)


class Applying(Case):
    HAVE = formula([(X, Y, Y)])

    def applies(self, made, words, heap, expected):
        self.exact(applies(made, self.HAVE, words, heap), expected)

    def test_equal(self):
        heap = ((3, 4, 4),)
        words = ((0, 3), (1, 4), (2, 3), (3, 7))
        self.applies(solution(), words, heap, True)
        self.applies(solution([(2, X)]), words, heap, True)
        self.applies(solution([(2, X), (3, num(7))]), words, heap, True)
        self.applies(solution([(2, Y)]), words, heap, False)
        self.applies(solution([(2, X), (3, num(8))]), words, heap, False)

    def test_differ(self):
        heap = ((3, 4, 4),)
        words = ((0, 3), (1, 4), (2, 3))
        self.applies(solution([], [(X, Y), (Z, num(4))]), words, heap, True)
        self.applies(solution([], [(X, Y), (Z, X)]), words, heap, False)
        self.applies(solution([], [(num(4), Y)]), words, heap, False)

    def test_cells(self):
        words = ((0, 3), (1, 4), (2, 4))
        missing = solution(missing=[(Z, X, X)])
        self.applies(missing, words, ((3, 4, 4), (4, 3, 3)), True)
        self.applies(missing, words, ((3, 4, 4), (4, 3, 0)), False)
        self.applies(missing, words, ((3, 4, 4),), False)
        self.applies(missing, words, ((4, 3, 3),), False)
        self.applies(solution(), words, ((3, 4, 5),), False)
        self.applies(solution(), words, (), False)
        # the missing cell at the address of the one that is there
        self.applies(solution(missing=[(Z, Y, Y)]), ((0, 3), (1, 4), (2, 3)), ((3, 4, 4),), False)

    def test_the_cells_that_are_left_are_not_asked(self):
        self.applies(solution(left=[(num(9), num(9), num(9))]), ((0, 3), (1, 4)), ((3, 4, 4),), True)


class Meaning(Case):
    """Both formulas are true just where one solution applies."""

    def test_drawn_formulas(self):
        both = neither = 0
        for seed in range(250):
            terms = Terms(seed)
            have, need = [formula(terms.rows(many, 3, 3), terms.rows(more, 2, 3)) for many, more in
                          ((terms.random.choice((0, 1, 1, 2)), terms.random.choice((0, 0, 1))) for _ in range(2))]
            solutions = abduce(have, need)
            for _ in range(4):
                heap = tuple((k,) + tuple(terms.random.choices((0, 1, 2), k=2)) for k in (1, 2, 3)
                             if terms.random.random() < 0.8)
                for told in itertools.product((0, 1, 2, 3), repeat=3):
                    words = tuple(enumerate(told))
                    true = holds(have, words, heap) and holds(need, words, heap)
                    fitting = [found for found in solutions if applies(found, have, words, heap)]
                    self.assertEqual(len(fitting), int(true), (seed, words, heap))
                    both, neither = both + true, neither + (not true)
                    for found in fitting:
                        self.check_left(found, have, need, words, heap)
        self.assertGreater(both, 200)
        self.assertGreater(neither, 200)

    def check_left(self, found, have, need, words, heap):
        """What is left is what have has and need has not."""
        def addresses(cells):
            return {dict(words)[cell[0][1]] if cell[0][0] == "var" else cell[0][1] for cell in cells}
        had, needed = addresses(have[1]), addresses(need[1])
        self.assertEqual(addresses(found[4]), had - needed)
        self.assertEqual(addresses(found[3]), needed - had)


if __name__ == "__main__":
    unittest.main()

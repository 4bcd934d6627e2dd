import itertools
import unittest

from heappacts.terms import (
    certainly_unlike, put, put_all, put_cell, put_pair, shift, shift_all, shift_cell, shift_pair, solve,
    variables_of, words_of)
from helpers import Case, new, num, var

SOME = (num(0), num(1), var(0), var(1), var(2), new(0), new(1))


def slowly(equations):
    """The answer of the document, with every equation replaced in after each one."""
    left, answer = list(equations), {}
    while left:
        a, b = left.pop(0)
        if a == b:
            continue
        if a[0] != "var" and b[0] != "var":
            return None
        if a[0] == "var" and b[0] == "var":
            gone, kept = (a, b) if a[1] > b[1] else (b, a)
        else:
            gone, kept = (a, b) if a[0] == "var" else (b, a)

        def instead(term):
            return kept if term == gone else term
        left = [(instead(c), instead(d)) for c, d in left]
        answer = {k: instead(term) for k, term in answer.items()}
        answer[gone[1]] = kept
    return tuple((k, answer[k]) for k in sorted(answer))


class Solving(Case):
    def test_no_equation(self):
        self.exact(solve(()), ())

    def test_the_same_terms(self):
        for term in SOME:
            self.exact(solve(((term, term),)), ())

    def test_no_solution(self):
        for a, b in ((num(0), num(1)), (num(7), num(99)), (new(0), new(1)), (new(2), new(0)), (num(0), new(0)),
                     (num(5), new(5))):
            self.assertIsNone(solve(((a, b),)))
            self.assertIsNone(solve(((b, a),)))
            self.assertIsNone(solve(((var(0), var(1)), (a, b), (var(2), num(3)))))

    def test_two_variables(self):
        self.exact(solve(((var(0), var(1)),)), ((1, var(0)),))
        self.exact(solve(((var(1), var(0)),)), ((1, var(0)),))
        self.exact(solve(((var(12), var(9)),)), ((12, var(9)),))

    def test_a_variable_and_another_term(self):
        for term in (num(0), num(99), new(0), new(7)):
            self.exact(solve(((var(3), term),)), ((3, term),))
            self.exact(solve(((term, var(3)),)), ((3, term),))

    def test_chains(self):
        chain = ((var(0), var(1)), (var(1), var(2)), (var(2), var(3)))
        for equations in itertools.permutations(chain):
            self.exact(solve(equations), ((1, var(0)), (2, var(0)), (3, var(0))))
            self.exact(solve(equations + ((var(3), num(5)),)), tuple((k, num(5)) for k in range(4)))
            self.exact(solve(((new(1), var(2)),) + equations), tuple((k, new(1)) for k in range(4)))
            self.assertIsNone(solve(equations + ((var(0), num(1)), (var(3), num(2)))))
            self.assertIsNone(solve(((num(1), var(0)), (var(3), new(0))) + equations))

    def test_replaced_before_in_the_next_one(self):
        self.exact(solve(((var(5), num(1)), (var(5), var(2)))), ((2, num(1)), (5, num(1))))
        self.exact(solve(((var(5), num(1)), (var(5), num(1)))), ((5, num(1)),))
        self.assertIsNone(solve(((var(5), num(1)), (var(5), num(2)))))
        self.exact(solve(((var(3), var(2)), (var(3), var(1)))), ((2, var(1)), (3, var(1))))
        self.exact(solve(((var(2), var(4)), (var(4), var(2)))), ((4, var(2)),))

    def test_replaced_in_what_was_replaced_before(self):
        self.exact(solve(((var(9), var(8)), (var(8), new(0)))), ((8, new(0)), (9, new(0))))
        self.exact(solve(((var(9), var(8)), (var(7), var(6)), (var(8), var(6)), (var(6), var(1)))),
                   ((6, var(1)), (7, var(1)), (8, var(1)), (9, var(1))))

    def test_rising(self):
        answer = solve(tuple((var(k), num(k)) for k in (11, 3, 10, 2, 1)))
        self.exact(answer, tuple((k, num(k)) for k in (1, 2, 3, 10, 11)))

    def test_against_the_slow_way(self):
        pairs = list(itertools.product(SOME, repeat=2))
        for first, second in itertools.product(pairs, repeat=2):
            self.assertEqual(solve((first, second)), slowly((first, second)))
        some = (num(0), var(0), var(1), var(2), var(3), new(0))
        pairs = list(itertools.combinations(some, 2))
        for equations in itertools.product(pairs, repeat=3):
            answer = solve(equations)
            self.assertEqual(answer, slowly(equations))
            if answer is not None:
                replaced = [k for k, _ in answer]
                self.assertEqual(replaced, sorted(replaced))
                for _, term in answer:
                    self.assertFalse(term[0] == "var" and term[1] in replaced)
                for a, b in equations:
                    self.assertEqual(put(a, answer), put(b, answer))


ANSWER = ((1, var(0)), (3, num(7)), (4, new(2)))


class Putting(Case):
    def test_put(self):
        for term, expected in (
                (var(0), var(0)), (var(1), var(0)), (var(2), var(2)), (var(3), num(7)), (var(4), new(2)),
                (num(1), num(1)), (num(3), num(3)), (new(1), new(1)), (new(4), new(4))):
            self.exact(put(term, ANSWER), expected)
            self.exact(put(term, ()), term)

    def test_put_cell_and_pair(self):
        self.exact(put_cell((var(1), var(3), var(2)), ANSWER), (var(0), num(7), var(2)))
        self.exact(put_cell((new(1), num(1), var(4)), ANSWER), (new(1), num(1), new(2)))
        self.exact(put_pair((var(4), var(1)), ANSWER), (new(2), var(0)))
        self.exact(put_pair((num(4), var(2)), ANSWER), (num(4), var(2)))

    def test_put_all(self):
        self.exact(put_all((), ANSWER), ())
        self.exact(put_all((var(1), num(1), var(3)), ANSWER), (var(0), num(1), num(7)))
        self.exact(put_all((var(1), var(2)), ANSWER), (var(0), var(2)))
        self.exact(put_all((var(1), var(2), var(4)), ANSWER), (var(0), var(2), new(2)))
        self.exact(put_all(((var(1), var(3)), (var(0), var(4))), ANSWER), ((var(0), num(7)), (var(0), new(2))))
        cells = ((var(1), var(3), var(4)), (var(2), var(1), num(1)), (new(1), var(1), var(1)))
        self.exact(put_all(cells, ANSWER), (
            (var(0), num(7), new(2)), (var(2), var(0), num(1)), (new(1), var(0), var(0))))
        self.exact(put_all(cells, ()), cells)


class Shifting(Case):
    def test_shift(self):
        self.exact(shift(var(2), 5, 3), var(7))
        self.exact(shift(new(2), 5, 3), new(5))
        self.exact(shift(num(2), 5, 3), num(2))
        for term in SOME:
            self.exact(shift(term, 0, 0), term)

    def test_shift_cell_and_pair(self):
        self.exact(shift_cell((var(0), new(0), num(0)), 4, 6), (var(4), new(6), num(0)))
        self.exact(shift_pair((new(1), var(2)), 4, 6), (new(7), var(6)))

    def test_shift_all(self):
        self.exact(shift_all((), 4, 6), ())
        self.exact(shift_all((var(1), num(1), new(3)), 4, 6), (var(5), num(1), new(9)))
        self.exact(shift_all((var(1), new(3)), 4, 6), (var(5), new(9)))
        self.exact(shift_all(((var(1), new(3)), (num(4), var(0))), 4, 6), ((var(5), new(9)), (num(4), var(4))))
        self.exact(shift_all(((var(1), new(3), num(4)), (new(0), var(0), var(2))), 1, 2),
                   ((var(2), new(5), num(4)), (new(2), var(1), var(3))))


class Variables(Case):
    def test_in_order_and_each_once(self):
        self.exact(variables_of(()), ())
        self.exact(variables_of((num(1), new(2))), ())
        self.exact(variables_of((var(5), num(1), var(2), var(5), new(3), var(0))), (5, 2, 0))
        self.exact(variables_of((var(9), var(1))), (9, 1))
        self.exact(variables_of(((var(4), num(0)), (var(3), var(4)))), (4, 3))
        self.exact(variables_of(((var(6), var(2), var(6)), (new(0), var(8), var(1)), (var(2), num(1), var(0)))),
                   (6, 2, 8, 1, 0))


class Unlike(Case):
    def check(self, a, b, addresses, expected):
        self.exact(certainly_unlike(a, b, addresses), expected, (a, b, addresses))
        self.exact(certainly_unlike(b, a, addresses), expected, (b, a, addresses))

    def test_the_same_term(self):
        for term in SOME:
            self.check(term, term, (), False)
            self.check(term, term, SOME, False)

    def test_two_constants(self):
        self.check(num(0), num(1), (), True)
        self.check(num(98), num(99), (), True)

    def test_a_new_address_and_another_term(self):
        for term in (num(0), num(5), var(0), var(9), new(1)):
            self.check(new(0), term, (), True)
            self.check(new(0), term, (term,), True)

    def test_zero_and_addresses(self):
        addresses = (var(1), num(7), var(4))
        self.check(num(0), var(1), addresses, True)
        self.check(num(0), var(4), addresses, True)
        self.check(var(1), var(4), addresses, True)
        self.check(var(1), num(7), addresses, True)
        self.check(num(0), num(7), addresses, True)

    def test_not_certain(self):
        addresses = (var(1), num(7), var(4))
        self.check(var(0), var(2), addresses, False)
        self.check(var(0), var(1), addresses, False)
        self.check(var(0), num(0), addresses, False)
        self.check(var(1), num(8), addresses, False)
        self.check(var(0), num(7), addresses, False)
        self.check(var(1), num(0), (), False)
        self.check(var(1), var(4), (var(1),), False)
        self.check(var(1), var(4), (var(4),), False)


class Words(Case):
    def test_each_kind(self):
        words = (50, 60, 70)
        for k in range(3):
            self.exact(words_of(var(k), words, 100), words[k])
            self.exact(words_of(new(k), words, 100), 100 + k)
            self.exact(words_of(num(k), words, 100), k)
        self.exact(words_of(num(99), (), 100), 99)
        self.exact(words_of(new(5), (), 204), 209)


if __name__ == "__main__":
    unittest.main()

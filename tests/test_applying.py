import unittest

from drawn import Drawer
from heappacts.applying import applying, promised, words_for
from heappacts.errors import TooMany
from heappacts.finding import contracts
from heappacts.machine import run
from helpers import Case, new, num, var
from samples import PROGRAM, SAMPLES
from starts import near, own

X, Y, Z, U, V, W = (var(number) for number in range(6))
ZERO = num(0)


def contract(arguments=(), needs=(), absent=(), differ=(), end="return", result=ZERO, gives=(), where=(), news=0):
    if end != "return":
        result, gives, news = None, (), 0
    return ("contract", arguments, needs, absent, differ, end, result, gives, where, news)


class Words(Case):
    def words(self, made, actual, heap, expected):
        self.exact(words_for(made, actual, heap), expected)

    def test_arguments(self):
        self.words(contract(), (), (), ())
        self.words(contract((X,)), (7,), (), (7,))
        self.words(contract((X, Y, X)), (7, 8, 7), (), (7, 8))
        self.words(contract((X, Y, X)), (7, 7, 7), (), (7, 7))
        self.words(contract((X, Y, X)), (7, 8, 8), (), None)
        self.words(contract((num(0), num(3), X)), (0, 3, 4), (), (4,))
        self.words(contract((num(0), num(3), X)), (0, 4, 4), (), None)
        self.words(contract((ZERO,)), (0,), (), ())

    def test_how_many_arguments(self):
        for arguments, actual in (((), (1,)), ((X,), ()), ((X,), (1, 2)), ((X, Y), (1,)), ((ZERO,), ())):
            self.words(contract(arguments), actual, (), None)

    def test_needed_cells(self):
        one = contract((X,), ((X, Y, Z),))
        self.words(one, (7,), ((7, 1, 2),), (7, 1, 2))
        self.words(one, (7,), ((6, 3, 3), (7, 1, 2), (8, 4, 4)), (7, 1, 2))
        self.words(one, (7,), ((6, 1, 2), (8, 7, 7)), None)
        self.words(one, (7,), (), None)
        self.words(one, (0,), ((7, 1, 2),), None)
        self.words(contract((), ((num(7), X, Y),)), (), ((7, 1, 2),), (1, 2))
        self.words(contract((), ((num(7), X, Y),)), (), ((8, 1, 2),), None)

    def test_fields(self):
        heap = ((7, 7, 2),)
        self.words(contract((X,), ((X, X, Y),)), (7,), heap, (7, 2))
        self.words(contract((X,), ((X, Y, X),)), (7,), heap, None)
        self.words(contract((X,), ((X, Y, num(2)),)), (7,), heap, (7, 7))
        self.words(contract((X,), ((X, num(2), Y),)), (7,), heap, None)
        self.words(contract((X,), ((X, Y, Y),)), (7,), heap, None)
        self.words(contract((X,), ((X, Y, Y),)), (7,), ((7, 3, 3),), (7, 3))

    def test_a_chain(self):
        chain = contract((X,), ((X, Y, Z), (Y, U, V)))
        self.words(chain, (7,), ((5, 1, 2), (7, 5, 0)), (7, 5, 0, 1, 2))
        self.words(chain, (7,), ((5, 1, 2), (7, 6, 5)), None)

    def test_cells_at_one_address(self):
        self.words(contract((X,), ((X, Y, Z), (Y, U, V))), (7,), ((7, 7, 1),), None)
        two = contract((X, Y), ((X, Z, Z), (Y, Z, Z)))
        self.words(two, (7, 8), ((7, 1, 1), (8, 1, 1)), (7, 8, 1))
        self.words(two, (7, 7), ((7, 1, 1), (8, 1, 1)), None)

    def test_absent_addresses(self):
        missing = contract((X,), (), (X,), (), "missing")
        self.words(missing, (7,), ((6, 7, 7), (8, 7, 7)), (7,))
        self.words(missing, (7,), ((6, 7, 7), (7, 1, 1)), None)
        behind = contract((X,), ((X, Y, Z),), (Y,), (), "missing")
        self.words(behind, (7,), ((7, 6, 1),), (7, 6, 1))
        self.words(behind, (7,), ((6, 0, 0), (7, 6, 1)), None)
        self.words(behind, (7,), ((7, 7, 1),), None)
        constant = contract((), (), (num(5),), (), "missing")
        self.words(constant, (), ((4, 5, 5),), ())
        self.words(constant, (), ((5, 5, 5),), None)

    def test_pairs(self):
        self.words(contract((X, Y), differ=((X, Y),)), (7, 8), (), (7, 8))
        self.words(contract((X, Y), differ=((X, Y),)), (7, 7), (), None)
        self.words(contract((X,), differ=((num(4), X), (X, num(5)))), (3,), (), (3,))
        for word in (4, 5):
            self.words(contract((X,), differ=((num(4), X), (X, num(5)))), (word,), (), None)
        inner = contract((X,), ((X, Y, Z),), differ=((Y, Z), (Z, X)))
        self.words(inner, (7,), ((7, 1, 2),), (7, 1, 2))
        self.words(inner, (7,), ((7, 1, 1),), None)
        self.words(inner, (7,), ((7, 1, 7),), None)

    def test_nothing_handed_in_is_changed(self):
        made, heap = contract((X,), ((X, Y, Z), (Y, U, V))), ((5, 1, 2), (7, 5, 0))
        words_for(made, (7,), heap)
        self.exact((made, heap), (contract((X,), ((X, Y, Z), (Y, U, V))), ((5, 1, 2), (7, 5, 0))))


class Applying(Case):
    def test_the_first_one_that_applies(self):
        rows = (contract((X, X)), contract((X, num(3))), contract((X, Y), ((Y, Z, U), (X, V, W))), contract((X, Y)))
        heap = ((5, 1, 2), (6, 3, 4))
        self.exact(applying(rows, (7, 7), heap), (0, (7,), ()))
        self.exact(applying(rows, (3, 3), heap), (0, (3,), ()))
        self.exact(applying(rows, (7, 3), heap), (1, (7,), ()))
        self.exact(applying(rows, (5, 6), heap), (2, (5, 6, 3, 4, 1, 2), (6, 5)))
        self.exact(applying(rows, (5, 7), heap), (3, (5, 7), ()))
        self.exact(applying(rows[1:], (3, 3), heap), (0, (3,), ()))

    def test_none(self):
        self.exact(applying((), (1,), ()), None)
        self.exact(applying((contract((num(2),)), contract((X,), ((X, Y, Z),))), (1,), ((2, 0, 0),)), None)

    def test_constant_addresses(self):
        rows = (contract((), ((num(9), X, Y), (X, Z, U))),)
        self.exact(applying(rows, (), ((4, 1, 1), (9, 4, 0))), (0, (4, 0, 1, 1), (9, 4)))


class Promised(Case):
    def promise(self, made, actual, heap, expected):
        self.exact(promised(made, actual, heap, words_for(made, actual, heap)), expected)

    def test_ends(self):
        for end in ("missing", "null", "freed", "deep"):
            where = (("f", 1), ("g", 0))
            self.promise(contract((X,), end=end, where=where), (3,), ((5, 1, 1),), (end, None, None, where))

    def test_results(self):
        self.promise(contract((X,), result=num(4)), (3,), (), ("return", 4, (), ()))
        self.promise(contract((X,), result=X), (3,), ((5, 1, 1),), ("return", 3, ((5, 1, 1),), ()))
        self.promise(contract((X,), ((X, Y, Z),), result=Z), (3,), ((3, 8, 9),), ("return", 9, (), ()))

    def test_a_contract_without_a_result(self):
        stored = contract((X,), ((X, Y, Z),), result=None, gives=((X, num(5), Z),))
        self.promise(stored, (3,), ((3, 8, 9),), ("return", None, ((3, 5, 9),), ()))

    def test_given_cells_in_place_of_needed_ones(self):
        swapped = contract((X,), ((X, Y, Z), (Y, U, V)), gives=((Y, V, U), (X, Z, num(6))))
        self.promise(swapped, (7,), ((2, 0, 0), (5, 1, 3), (6, 7, 5), (7, 5, 4)),
                     ("return", 0, ((2, 0, 0), (5, 3, 1), (6, 7, 5), (7, 4, 6)), ()))
        freed = contract((X,), ((X, Y, Z), (Y, U, V)), gives=((X, Y, Z),))
        self.promise(freed, (7,), ((2, 0, 0), (5, 1, 3), (7, 5, 4)), ("return", 0, ((2, 0, 0), (7, 5, 4)), ()))

    def test_new_addresses(self):
        made = contract((X,), (), result=new(1), gives=((new(1), new(0), X), (new(0), num(1), new(1))), news=3)
        self.promise(made, (5,), (), ("return", 101, ((100, 1, 101), (101, 100, 5)), ()))
        self.promise(made, (150,), (), ("return", 152, ((151, 1, 152), (152, 151, 150)), ()))
        self.promise(made, (5,), ((3, 200, 1),), ("return", 202, ((3, 200, 1), (201, 1, 202), (202, 201, 5)), ()))
        self.promise(made, (5,), ((3, 1, 299),), ("return", 301, ((3, 1, 299), (300, 1, 301), (301, 300, 5)), ()))
        self.promise(made, (5,), ((400, 1, 1),), ("return", 402, ((400, 1, 1), (401, 1, 402), (402, 401, 5)), ()))


class Promises(Case):
    """For any arguments and any heap exactly one contract applies, and the run ends as it says."""

    def setUp(self):
        self.ends = {}

    def one_applies(self, program, name, depth, turns, found, actual, heap):
        note = (name, depth, turns, actual, heap)
        applied = [number for number, made in enumerate(found) if words_for(made, actual, heap) is not None]
        self.assertEqual(len(applied), 1, note)
        number, words, addresses = applying(found, actual, heap)
        self.assertEqual(number, applied[0])
        self.assertEqual(words, words_for(found[number], actual, heap))
        cells = {cell[0]: cell for cell in heap}
        self.assertEqual(len(set(addresses)), len(found[number][2]))
        self.assertTrue(all(address in cells for address in addresses), note)
        outcome = run(program, name, actual, heap, depth, turns)
        self.exact(promised(found[number], actual, heap, words), outcome, note)
        self.ends[outcome[0]] = self.ends.get(outcome[0], 0) + 1
        return number

    def near(self, drawer, program, name, depth, turns, found):
        for number, made in enumerate(found):
            for actual, heap in near(drawer, made):
                self.one_applies(program, name, depth, turns, found, actual, heap)
            actual, heap = own(made)
            self.exact(self.one_applies(program, name, depth, turns, found, actual, heap), number)

    def test_samples(self):
        for seed, (name, depth, turns) in enumerate(SAMPLES):
            found = contracts(PROGRAM, name, depth, turns)
            self.near(Drawer(seed), PROGRAM, name, depth, turns, found)
        for end in ("return", "missing", "null", "freed", "deep"):
            self.assertGreater(self.ends[end], 50, end)

    def test_drawn_procedures(self):
        for seed in range(400):
            drawer = Drawer(seed, 8)
            program = drawer.program()
            _, name, parameters, _, _ = program[-1]
            depth, turns = drawer.random.randint(1, 4), drawer.random.randint(0, 3)
            try:
                found = contracts(program, name, depth, turns)
            except TooMany:
                continue
            if len(found) > 40:
                continue
            self.near(drawer, program, name, depth, turns, found)
            for _ in range(10):
                actual = drawer.words(len(parameters))
                self.one_applies(program, name, depth, turns, found, actual, drawer.heap())
        for end in ("return", "missing", "null", "freed", "deep"):
            self.assertGreater(self.ends[end], 50, end)


if __name__ == "__main__":
    unittest.main()

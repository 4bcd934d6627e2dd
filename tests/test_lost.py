import unittest

from heappacts.finding import contracts
from heappacts.lost import losing, perhaps, still_held, sure
from heappacts.parsing import parse
from helpers import Case, new, num, var

X, Y, Z, U, V = (var(number) for number in range(5))
ZERO = num(0)
A, B, C = new(0), new(1), new(2)


def contract(gives, result=ZERO, arguments=(X,), needs=()):
    return ("contract", arguments, needs, (), (), "return", result, tuple(gives), (), 9)


class Lost(Case):
    def lost(self, made, surely, maybe=()):
        self.exact(sure(made), tuple(surely))
        self.exact(perhaps(made), tuple(maybe))
        self.exact(losing((made, contract(()), made)), (0, 2) if surely else ())

    def test_no_cells(self):
        self.lost(contract(()), ())
        self.lost(contract((), A), ())

    def test_returned(self):
        self.lost(contract([(A, ZERO, ZERO)], A), [])
        self.lost(contract([(A, ZERO, ZERO), (B, ZERO, ZERO)], A), [B])
        self.lost(contract([(A, ZERO, ZERO), (B, ZERO, ZERO)], B), [A])

    def test_on_a_returned_one(self):
        self.lost(contract([(A, ZERO, B), (B, ZERO, ZERO), (C, A, B)], A), [C])
        self.lost(contract([(A, B, ZERO), (B, ZERO, C), (C, ZERO, ZERO)], A), [])
        self.lost(contract([(C, ZERO, ZERO), (B, ZERO, C), (A, B, ZERO)], A), [])
        self.lost(contract([(A, ZERO, ZERO), (B, A, A)], A), [B])

    def test_on_an_argument(self):
        self.lost(contract([(X, A, ZERO), (A, ZERO, ZERO)], arguments=(X,)), [])
        self.lost(contract([(X, ZERO, ZERO), (A, X, X)], arguments=(X,)), [A])
        self.lost(contract([(num(7), A, ZERO), (A, ZERO, ZERO)], arguments=(num(7),)), [])

    def test_on_an_old_cell(self):
        # the old cell is no argument: something else may lead to it, or not
        self.lost(contract([(Y, A, ZERO), (A, ZERO, ZERO)], arguments=(X,)), [], [Y, A])
        self.lost(contract([(Y, A, ZERO), (A, ZERO, ZERO), (B, ZERO, ZERO)], arguments=(X,)), [B], [Y, A])
        self.lost(contract([(X, Y, ZERO), (Y, A, ZERO), (A, ZERO, ZERO)], arguments=(X,)), [])
        self.lost(contract([(A, ZERO, ZERO), (Y, A, ZERO)], Y), [])
        self.lost(contract([(num(7), A, B), (A, ZERO, ZERO), (B, C, ZERO), (C, ZERO, ZERO)]), [], [num(7), A, B, C])

    def test_on_each_other_in_a_ring(self):
        ring = [(A, B, ZERO), (B, C, ZERO), (C, A, ZERO)]
        self.lost(contract(ring), [A, B, C])
        self.lost(contract(ring[::-1]), [C, B, A])
        self.lost(contract(ring, B), [])
        self.lost(contract([(A, A, A)]), [A])
        self.lost(contract(ring + [(Y, C, ZERO)]), [], [A, B, C, Y])

    def test_on_nothing(self):
        self.lost(contract([(A, ZERO, ZERO)]), [A])
        self.lost(contract([(B, ZERO, ZERO), (A, ZERO, ZERO)], num(1)), [B, A])

    def test_a_field_without_a_cell_leads_nowhere(self):
        # the cell at the argument was freed: nothing is known behind it
        self.lost(contract([(A, ZERO, ZERO)], Y, (X,)), [A])
        self.lost(contract([(Y, ZERO, ZERO)], Z, (X,)), [], [Y])

    def test_other_ends(self):
        for end in ("missing", "null", "freed", "deep"):
            made = ("contract", (X,), (), (), (), end, None, (), (("f", 0),), 0)
            self.lost(made, [])

    def test_losing(self):
        leak, fine = contract([(A, ZERO, ZERO)]), contract([(A, ZERO, ZERO)], A)
        self.exact(losing(()), ())
        self.exact(losing((fine, leak, fine, leak, leak)), (1, 3, 4))

    def test_of_a_procedure(self):
        program = parse("procedure f(x) { y = new(0, x); z = new(0, y); x.first = z; x.first = 0; return 0; } "
                        "procedure g(x) { y = x.first; x.first = 0; free x; return 0; } "
                        "procedure h(x) { y = x.first; y.first = 1; x.first = 0; return 0; }")
        self.exact([sure(found) for found in contracts(program, "f", 1, 0)], [(A, B), (), ()])
        self.exact(losing(contracts(program, "f", 1, 0)), (0,))
        self.exact(losing(contracts(program, "g", 1, 0)), ())
        found = contracts(program, "h", 1, 0)
        self.exact([(sure(made), perhaps(made)) for made in found[1:2]], [((), (Y,))])


class StillHeld(Case):
    HEAP = ((1, 2, 0), (2, 3, 9), (3, 0, 1), (5, 5, 5), (6, 7, 2), (8, 4, 4))

    def held(self, words, expected, heap=HEAP):
        self.exact(still_held(heap, words), expected)

    def test_no_words(self):
        self.held((), ())
        self.held((), (), ())

    def test_chains(self):
        chain = ((1, 2, 0), (2, 0, 3), (3, 4, 0), (4, 0, 0))
        self.held((1,), (1, 2, 3, 4), chain)
        self.held((3,), (3, 4), chain)
        self.held((4,), (4,), chain)

    def test_rings(self):
        for word in (1, 2, 3):
            self.held((word,), (1, 2, 3))
        self.held((5,), (5,))

    def test_shared_cells(self):
        self.held((6,), (1, 2, 3, 6))
        self.held((6, 1), (1, 2, 3, 6))
        self.held((8, 6, 5), (1, 2, 3, 5, 6, 8))
        self.held((5, 8), (5, 8))
        self.held((8, 5, 8), (5, 8))

    def test_0_and_words_without_a_cell(self):
        self.held((0,), ())
        self.held((4, 9, 0, 77), ())
        self.held((8,), (8,))
        self.held((0, 5, 77), (5,))

    def test_no_heap(self):
        self.held((1, 2), (), ())

    def test_a_long_chain(self):
        chain = tuple((number, number + 1, 0) for number in range(1, 3000))
        self.held((1,), tuple(range(1, 3000)), chain)


if __name__ == "__main__":
    unittest.main()

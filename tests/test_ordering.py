import itertools
import unittest

from heappacts.ordering import left_out, put_in_order
from helpers import Case, new, num, var


def path(arguments=(), needs=(), absent=(), differ=(), present=(), news=0, end=None, where=()):
    return ("path", arguments, needs, absent, differ, present, (("x", var(50)),), 99, news, end, where)


class LeftOut(Case):
    def left(self, pairs, expected, addresses=(), absent=()):
        """The same when each pair is turned round."""
        self.exact(left_out(tuple(pairs), addresses, absent), tuple(expected))
        turned = tuple((b, a) for a, b in pairs)
        self.exact(left_out(turned, addresses, absent), tuple((b, a) for a, b in expected))

    def test_no_pairs(self):
        self.left((), ())

    def test_two_constants(self):
        self.left([(num(0), num(1)), (var(0), num(1)), (num(98), num(99))], [(var(0), num(1))])

    def test_a_new_address(self):
        self.left([(new(0), term) for term in (num(0), num(7), var(3), new(1))], [])
        self.left([(var(0), var(3)), (new(1), var(0))], [(var(0), var(3))], (var(0),))

    def test_zero_and_needed_addresses(self):
        addresses = (var(4), num(7), var(2))
        for a, b in itertools.combinations((num(0),) + addresses, 2):
            self.left([(a, b)], [], addresses)
        for a, b in ((var(4), var(3)), (var(3), num(0)), (var(3), num(7)), (var(4), num(8)), (var(3), var(5))):
            self.left([(a, b)], [(a, b)], addresses)
        self.left([(var(4), var(2))], [(var(4), var(2))], (var(4),))
        self.left([(var(4), num(0))], [(var(4), num(0))])

    def test_absent_and_needed(self):
        self.left([(var(1), var(4))], [], (var(4),), (var(1),))
        self.left([(var(1), num(5))], [], (num(5),), (var(1),))
        self.left([(var(1), var(4))], [(var(1), var(4))], (var(4),), ())
        self.left([(var(1), var(4))], [(var(1), var(4))], (), (var(1),))
        self.left([(var(1), var(4))], [(var(1), var(4))], (var(5),), (var(1),))
        # neither two absent addresses nor an absent one and 0 are certainly unlike
        self.left([(var(1), var(4)), (var(1), num(0))], [(var(1), var(4)), (var(1), num(0))], (), (var(1), var(4)))

    def test_one_that_stood_earlier(self):
        a, b, c = var(5), var(3), num(8)
        self.left([(a, b), (a, c), (a, b), (b, c), (a, c)], [(a, b), (a, c), (b, c)])
        self.left([(a, b), (b, a), (b, c), (c, b), (c, a), (a, c)], [(a, b), (b, c), (c, a)])
        self.left([(a, b), (a, b), (a, b)], [(a, b)])

    def test_what_is_left_keeps_its_order_and_its_sides(self):
        pairs = [(var(9), var(1)), (var(2), num(4)), (num(5), var(1)), (var(1), var(2))]
        self.left(pairs, pairs)

    def test_a_term_with_itself(self):
        # it never differs, so it is not certain that it does
        for term in (num(3), num(0), new(1), var(4)):
            self.exact(left_out(((term, term), (term, term)), (var(4),), ()), ((term, term),))

    def test_nothing_handed_in_is_changed(self):
        pairs = ((var(1), var(2)), (var(2), var(1)))
        left_out(pairs, (var(1),), (var(2),))
        self.exact(pairs, ((var(1), var(2)), (var(2), var(1))))


class InOrder(Case):
    def test_a_path_that_goes_on(self):
        made = path((var(3),), ((var(3), var(7), num(2)),), (), ((var(7), num(0)),), ((new(0), var(3), var(7)),), 2)
        self.exact(put_in_order(made, new(1)), (
            "contract", (var(0),), ((var(0), var(1), num(2)),), (), ((var(1), num(0)),), "return", new(1),
            ((new(0), var(0), var(1)),), (), 2))

    def test_the_other_ends(self):
        for end, absent in (("missing", (var(4),)), ("null", ()), ("freed", ()), ("deep", ())):
            made = path((var(4), var(2)), (), absent, ((var(2), num(3)),), ((new(0), var(6), var(6)),), 1, end,
                        (("f", 2), ("g", 0)))
            self.exact(put_in_order(made, var(2)), (
                "contract", (var(0), var(1)), (), absent and (var(0),), ((var(1), num(3)),), end, None, (),
                (("f", 2), ("g", 0)), 0))

    def test_the_order_of_the_numbers(self):
        made = path((var(20), num(3), var(19), var(20)), ((var(18), var(20), var(17)), (var(16), var(18), var(15))),
                    (var(14),), ((var(13), var(12)), (var(11), var(13))),
                    ((var(18), var(10), var(9)), (new(0), var(8), var(20))), 1)
        answer = {20: 0, 19: 1, 18: 2, 17: 3, 16: 4, 15: 5, 14: 6, 13: 7, 12: 8, 11: 9, 10: 10, 9: 11, 8: 12}
        contract = put_in_order(made, var(7))
        self.exact(contract[1], (var(0), num(3), var(1), var(0)))
        self.exact(contract[2], ((var(2), var(0), var(3)), (var(4), var(2), var(5))))
        self.exact(contract[3], (var(6),))
        self.exact(contract[4], ((var(7), var(8)), (var(9), var(7))))
        self.exact(contract[7], ((var(2), var(10), var(11)), (new(0), var(12), var(0))))
        self.exact(contract[6], var(13))
        for old, number in answer.items():
            self.exact(put_in_order(made, var(old))[6], var(number))
        for result in (num(20), new(0)):
            self.exact(put_in_order(made, result)[6], result)

    def test_numbers_that_are_in_order_already_and_ones_that_change_places(self):
        made = path((var(0), var(1)), (), (), ((var(0), var(1)),))
        self.exact(put_in_order(made, var(1))[1:7], ((var(0), var(1)), (), (), ((var(0), var(1)),), "return", var(1)))
        made = path((var(1), var(0)), (), (), ((var(0), var(1)),))
        self.exact(put_in_order(made, var(1))[1:7], ((var(0), var(1)), (), (), ((var(1), var(0)),), "return", var(0)))

    def test_pairs_are_left_out_before_the_numbers_are_given(self):
        made = path((var(5),), (), (), ((new(0), var(9)), (var(8), num(1))), (), 1)
        self.exact(put_in_order(made, var(9)), (
            "contract", (var(0),), (), (), ((var(1), num(1)),), "return", var(2), (), (), 1))

    def test_pairs_that_the_needed_cells_and_the_absent_address_tell(self):
        made = path((var(5), var(6)), ((var(5), num(1), num(1)), (num(7), num(1), num(1))), (var(6),),
                    ((var(5), num(7)), (num(0), var(5)), (var(6), var(5)), (num(7), var(6)), (var(6), num(0)),
                     (num(0), var(6)), (num(3), num(0))), (), 0, "missing", (("f", 0),))
        self.exact(put_in_order(made, var(5)), (
            "contract", (var(0), var(1)), ((var(0), num(1), num(1)), (num(7), num(1), num(1))), (var(1),),
            ((var(1), num(0)),), "missing", None, (), (("f", 0),), 0))

    def test_present_cells_and_the_result_of_an_ended_path_do_not_count(self):
        made = path((var(3),), (), (), (), ((new(0), var(4), var(4)),), 1, "deep", (("f", 0),))
        self.exact(put_in_order(made, var(9)), (
            "contract", (var(0),), (), (), (), "deep", None, (), (("f", 0),), 0))


if __name__ == "__main__":
    unittest.main()

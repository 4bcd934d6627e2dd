import unittest

import slowly
from drawn import Terms
from heappacts.placing import compose, ways
from helpers import Case, new, num, var


def path(arguments=(), needs=(), absent=(), differ=(), present=(), names=(), variables=9, news=0):
    return ("path", arguments, needs, absent, differ, present, names, variables, news, None, ())


def contract(arguments=(), needs=(), absent=(), differ=(), end="return", result=None, gives=(), where=(), news=0):
    return ("contract", arguments, needs, absent, differ, end, result, gives, where, news)


def cells(*numbers):
    """Cells of variables: (0, 1, 2), (3, 4, 5), ... from each of the numbers on."""
    return tuple((var(number), var(number + 1), var(number + 2)) for number in numbers)


class Both(Case):
    """What compose and ways give for a path and a contract."""

    def both(self, made, with_contract, actual=()):
        found = compose(made, with_contract, actual)
        told = ways(made, with_contract, actual)
        self.assertEqual(len(found), len(told))
        self.exact(type(found), tuple)
        self.exact(type(told), tuple)
        return found, told

    def none(self, made, with_contract, actual=()):
        self.exact(self.both(made, with_contract, actual), ((), ()))

    def choices(self, made, with_contract, actual=()):
        return [(way[0], way[2]) for way in self.both(made, with_contract, actual)[1]]


class Arguments(Both):
    def test_nothing_at_all(self):
        self.exact(self.both(path(variables=0), contract()), (((path(variables=0), None),), (((), (), -1),)))

    def test_variables_are_numbered_behind(self):
        made = path((var(0), var(1)), variables=2, news=3)
        found, told = self.both(made, contract((var(0), var(1)), (), (), ((var(1), var(0)),)), (var(1), num(7)))
        self.exact(told, (((), ((2, var(1)), (3, num(7))), -1),))
        self.exact(found, ((path((var(0), var(1)), differ=((num(7), var(1)),), variables=4, news=3), None),))

    def test_the_same_argument_twice(self):
        same = contract((var(0), var(0)))
        made = path((var(0), var(1)), differ=((var(0), num(4)),), names=(("x", var(1)), ("y", num(1))), variables=2)
        found, told = self.both(made, same, (var(1), var(0)))
        self.exact(told, (((), ((1, var(0)), (2, var(0))), -1),))
        self.exact(found, ((path((var(0), var(0)), differ=((var(0), num(4)),),
                                 names=(("x", var(0)), ("y", num(1))), variables=3), None),))
        self.none(made, same, (num(1), num(2)))
        self.none(made, same, (new(0), num(2)))
        self.none(made, same, (new(0), new(1)))
        self.exact(ways(made, same, (num(3), num(3))), (((), ((2, num(3)),), -1),))

    def test_constants(self):
        null = contract((num(0),), end="null", where=(("f", 2),))
        made = path((var(0),), names=(("x", var(0)),), variables=1)
        found, told = self.both(made, null, (var(0),))
        self.exact(told, (((), ((0, num(0)),), -1),))
        ended = path((num(0),), names=(("x", num(0)),), variables=1)
        self.exact(found, ((ended[:9] + ("null", (("f", 2),)), None),))
        self.none(made, null, (num(1),))
        self.none(made, null, (new(0),))

    def test_equations_that_follow_from_others(self):
        twice = contract((var(0), var(1), var(0), var(1)))
        made = path((var(0), var(1), var(2)), variables=3)
        self.exact(ways(made, twice, (var(2), var(1), var(1), var(0))),
                   (((), ((1, var(0)), (2, var(0)), (3, var(0)), (4, var(0))), -1),))
        self.none(made, twice, (var(2), num(5), num(6), var(2)))


class Placed(Both):
    def test_one_cell_at_each_present_cell_and_missing(self):
        made = path((var(9),), cells(0, 3, 6), present=cells(3, 0, 6), variables=10)
        found, told = self.both(made, contract((var(0),), cells(0), result=var(2), gives=cells(0)), (var(9),))
        self.exact(told, (
            ((0,), ((9, var(3)), (10, var(3)), (11, var(4)), (12, var(5))), -1),
            ((1,), ((9, var(0)), (10, var(0)), (11, var(1)), (12, var(2))), -1),
            ((2,), ((9, var(6)), (10, var(6)), (11, var(7)), (12, var(8))), -1),
            ((-1,), ((10, var(9)),), -1)))
        self.exact(found, (
            (path((var(3),), cells(0, 3, 6), present=cells(0, 6, 3), variables=13), var(5)),
            (path((var(0),), cells(0, 3, 6), present=cells(3, 6, 0), variables=13), var(2)),
            (path((var(6),), cells(0, 3, 6), present=cells(3, 0, 6), variables=13), var(8)),
            (path((var(9),), cells(0, 3, 6) + ((var(9), var(11), var(12)),),
                  present=cells(3, 0, 6) + ((var(9), var(11), var(12)),), variables=13), var(12))))

    def test_two_cells_in_order_and_none_taken_twice(self):
        made = path((var(9), var(10)), cells(0, 3, 6), present=cells(0, 3, 6), variables=11)
        two = contract((var(0), var(3)), cells(0, 3))
        self.exact(self.choices(made, two, (var(9), var(10))), [
            ((0, 1), -1), ((0, 2), -1), ((0, -1), -1), ((1, 0), -1), ((1, 2), -1), ((1, -1), -1),
            ((2, 0), -1), ((2, 1), -1), ((2, -1), -1), ((-1, 0), -1), ((-1, 1), -1), ((-1, 2), -1), ((-1, -1), -1)])

    def test_a_known_address_leaves_one_way(self):
        made = path((var(3),), cells(0, 3), present=cells(0, 3), variables=6)
        one = contract((var(0),), cells(0))
        self.exact(self.choices(made, one, (var(3),)), [((1,), -1)])
        self.exact(self.choices(made, one, (var(0),)), [((0,), -1)])
        self.exact(self.choices(made, one, (var(4),)), [((0,), -1), ((1,), -1), ((-1,), -1)])

    def test_chain_in_a_ring(self):
        ring = ((var(0), var(1), num(0)), (var(1), var(0), num(0)))
        made = path((var(0),), ring, present=ring, variables=2)
        chain = contract((var(0),), ((var(0), var(1), var(2)), (var(1), var(3), var(4))), result=var(3))
        found, told = self.both(made, chain, (var(0),))
        self.exact([way[0] for way in told], [(0, 1)])
        self.exact(found[0], (path((var(0),), ring, variables=7), var(0)))

    def test_fields_make_equations(self):
        made = path((), ((var(0), var(1), num(5)),), present=((var(0), var(1), num(5)),), variables=2)
        self.exact(self.choices(made, contract((var(0),), ((var(0), var(1), num(5)),)), (var(0),)), [((0,), -1)])
        self.none(made, contract((var(0),), ((var(0), var(1), num(6)),)), (var(0),))
        found, told = self.both(made, contract((var(0),), ((var(0), num(3), var(1)),), result=var(1)), (var(0),))
        self.exact(told, (((0,), ((1, num(3)), (2, var(0)), (3, num(5))), -1),))
        self.exact(found, ((path((), ((var(0), num(3), num(5)),), variables=4), num(5)),))
        loop = contract((var(0),), ((var(0), var(0), var(1)),))
        self.exact(ways(made, loop, (var(0),)), (((0,), ((1, var(0)), (2, var(0)), (3, num(5))), -1),))

    def test_cells_that_are_present_but_not_needed(self):
        made = path((var(3),), present=cells(0) + ((num(7), num(1), num(1)),), variables=4)
        self.exact(self.choices(made, contract((var(0),), cells(0)), (var(3),)),
                   [((0,), -1), ((1,), -1), ((-1,), -1)])
        found = compose(made, contract((var(0),), cells(0)), (num(7),))
        self.exact([(new_path[2], new_path[5]) for new_path, _ in found], [
            ((), ((num(7), num(1), num(1)),)),
            ((), cells(0)),
            (((num(7), var(5), var(6)),), cells(0) + ((num(7), num(1), num(1)),))])


class Impossible(Both):
    """The ways whose path is not possible, for each reason."""

    def test_two_needed_cells_at_one_address(self):
        made = path((var(0),), cells(0), variables=3)
        self.none(made, contract((var(0),), cells(0)), (var(0),))
        self.none(path((), cells(0, 3), variables=6), contract((var(0), var(0))), (var(0), var(3)))
        two = contract((var(0),), ((var(0), var(1), var(2)), (var(0), var(3), var(4))))
        self.none(path((var(0),), variables=1), two, (var(0),))
        self.exact(self.choices(path((), cells(0, 3), variables=6), contract((var(0), var(0))), (var(0), var(4))),
                   [((), -1)])

    def test_a_needed_cell_at_zero(self):
        one = contract((var(0),), cells(0))
        self.none(path(), one, (num(0),))
        self.exact(self.choices(path(), one, (num(1),)), [((-1,), -1)])
        self.none(path((), cells(0), variables=3), contract((num(0),)), (var(0),))
        self.exact(self.choices(path((), cells(0), variables=3), contract((num(0),)), (var(1),)), [((), -1)])

    def test_an_absent_address_of_a_needed_cell(self):
        one = contract((var(0),), cells(0))
        self.none(path((var(0),), absent=(var(0),), variables=1), one, (var(0),))
        self.exact(self.choices(path((var(0),), absent=(var(0),), variables=2), one, (var(1),)), [((-1,), -1)])
        self.none(path((), cells(0), absent=(var(3),), variables=4), contract((var(0), var(0))), (var(3), var(0)))
        gone = contract((var(0),), absent=(var(0),), end="missing")
        self.none(path((), cells(0), present=cells(0), variables=3), gone, (var(0),))
        own = contract((var(0),), cells(0), (var(0),), end="missing")
        self.none(path(), own, (var(5),))

    def test_a_pair_of_the_same_term(self):
        unlike = contract((var(0), var(1)), differ=((var(0), var(1)),))
        for term in (var(4), num(0), num(9), new(0)):
            self.none(path(news=1), unlike, (term, term))
        self.none(path(differ=((var(2), var(5)),)), contract((var(0), var(0))), (var(5), var(2)))
        self.none(path(differ=((num(2), var(5)),)), contract((num(2),)), (var(5),))
        self.none(path(differ=((new(0), var(5)),), news=1), contract((var(0), var(0))), (var(5), new(0)))
        self.exact(self.choices(path(), unlike, (num(0), num(1))), [((), -1)])
        made = path((), cells(0), present=cells(0), differ=((var(1), num(3)),), variables=3)
        self.none(made, contract((var(0),), ((var(0), num(3), var(1)),)), (var(0),))
        self.exact(self.choices(made, contract((var(0),), ((var(0), num(4), var(1)),)), (var(0),)), [((0,), -1)])
        placed = contract((var(0),), cells(0), differ=((var(1), var(2)),))
        self.none(path((), cells(0), present=((var(0), var(4), var(4)),), variables=5), placed, (var(0),))

    def test_a_new_address_in_arguments_needed_cells_and_absent_addresses(self):
        same = contract((var(0), var(0)))
        self.none(path((var(0),), news=1), same, (var(0), new(0)))
        self.none(path((), cells(0), news=1), same, (var(0), new(0)))
        self.none(path((), cells(0), news=1), same, (var(1), new(0)))
        self.none(path((), cells(0), news=1), same, (new(0), var(2)))
        self.none(path(absent=(var(0),), news=1), same, (new(0), var(0)))
        absent = contract((var(0),), absent=(var(0),), end="missing")
        self.none(path(present=((new(0), num(1), num(1)),), news=1), absent, (new(0),))
        self.exact(self.choices(path(news=1), same, (var(0), new(0))), [((), -1)])
        one = contract((var(0), var(1)), ((var(0), var(1), num(0)),))
        self.none(path(news=1), one, (var(0), new(0)))
        self.none(path(news=1), contract((var(0),), cells(0)), (new(0),))

    def test_a_path_that_is_not_possible_already(self):
        for made in (path(differ=((var(0), var(0)),)), path((new(0),), news=1), path((), cells(0, 0)),
                     path(needs=((num(0), var(0), var(0)),)), path(needs=cells(0), absent=(var(0),)),
                     path(absent=(new(0),))):
            self.none(made, contract())


class Gone(Both):
    ABSENT = contract((var(0),), absent=(var(0),), differ=((var(0), num(0)),), end="missing", where=(("g", 3),))

    def test_each_gone_address_then_none_of_them(self):
        made = path((var(9),), cells(0, 3, 6), present=cells(3), variables=10, news=2)
        found, told = self.both(made, self.ABSENT, (var(9),))
        self.exact(told, (((), ((9, var(0)), (10, var(0))), 0), ((), ((9, var(6)), (10, var(6))), 1),
                          ((), ((10, var(9)),), -1)))
        freed = [path((var(k),), cells(0, 3, 6), present=cells(3), differ=((var(k), num(0)),), variables=11, news=2)
                 for k in (0, 6)]
        missing = path((var(9),), cells(0, 3, 6), (var(9),), ((var(9), num(0)),), cells(3), variables=11, news=2)
        self.exact(found, ((freed[0][:9] + ("freed", (("g", 3),)), None), (freed[1][:9] + ("freed", (("g", 3),)), None),
                           (missing[:9] + ("missing", (("g", 3),)), None)))

    def test_new_addresses_that_are_gone(self):
        made = path((var(0),), present=((new(1), var(0), var(0)),), names=(("x", new(2)),), variables=1, news=3)
        self.exact(self.choices(made, self.ABSENT, (new(0),)), [((), 0)])
        self.exact(self.choices(made, self.ABSENT, (new(2),)), [((), 1)])
        self.none(made, self.ABSENT, (new(1),))
        found = compose(made, self.ABSENT, (new(2),))
        self.exact(found[0][0][3:5], ((), ((new(2), num(0)),)))
        self.exact(found[0][0][9:], ("freed", (("g", 3),)))
        # a word that may be anything: an old one cannot be a new address
        self.exact(self.choices(made, self.ABSENT, (var(0),)), [((), -1)])

    def test_behind_the_cells_that_were_placed(self):
        both = contract((var(0), var(3)), cells(0), (var(3),), ((var(3), num(0)),), "missing")
        made = path((var(6), var(7)), cells(0, 3), present=cells(3), variables=8)
        self.exact(self.choices(made, both, (var(6), var(7))),
                   [((0,), 0), ((0,), -1), ((-1,), 0), ((-1,), -1)])

    def test_the_absent_addresses_of_the_path_stay(self):
        made = path((var(9),), cells(0), (var(8),), variables=10)
        found = compose(made, self.ABSENT, (var(9),))
        self.exact([new_path[3] for new_path, _ in found], [(var(8),), (var(8), var(9))])

    def test_nothing_gone(self):
        made = path((var(0),), cells(1), present=cells(1), variables=4)
        self.exact(self.choices(made, self.ABSENT, (var(0),)), [((), -1)])


class NewPath(Both):
    def test_new_addresses_are_numbered_behind(self):
        made = path((var(0),), present=((new(0), var(0), var(0)),), names=(("x", new(0)),), variables=1, news=2)
        gives = ((new(1), var(0), new(0)), (new(0), num(3), new(1)))
        found, told = self.both(made, contract((var(0),), (), (), ((new(0), var(0)),), "return", new(1), gives, (), 2),
                                (new(0),))
        self.exact(told, (((), ((1, new(0)),), -1),))
        self.exact(found, ((path((var(0),), (), (), ((new(2), new(0)),),
                                 ((new(0), var(0), var(0)), (new(3), new(0), new(2)), (new(2), num(3), new(3))),
                                 (("x", new(0)),), 2, 4), new(3)),))

    def test_how_many_variables(self):
        for greatest, with_contract in (
                (-1, contract()), (-1, contract((num(3),))), (0, contract((var(0),))), (4, contract((var(4),))),
                (5, contract((var(0),), ((var(0), var(5), var(1)),))), (6, contract(differ=((num(1), var(6)),))),
                (7, contract(result=var(7))), (8, contract(gives=((num(1), var(8), num(3)),))),
                (2, contract(absent=(var(2),), end="missing"))):
            actual = (num(3),) * len(with_contract[1])
            for new_path, _ in compose(path(variables=5), with_contract, actual):
                self.exact(new_path[7:9], (5 + greatest + 1, 0))
        self.exact(compose(path(news=3), contract(news=4), ())[0][0][8], 7)

    def test_ends_and_where(self):
        for end in ("missing", "null", "freed", "deep"):
            found = compose(path(), contract(end=end, where=(("f", 1), ("g", 2))), ())
            self.exact(found, ((path()[:9] + (end, (("f", 1), ("g", 2))), None),))
        self.exact(compose(path(), contract(result=num(4)), ()), ((path(), num(4)),))

    def test_everything_is_replaced(self):
        made = path((var(0), var(1)), ((var(2), var(1), var(0)),), (var(1),), ((var(1), num(3)),),
                    ((var(2), var(1), num(4)),), (("x", var(1)), ("y", var(2))), 3, 0)
        same = contract((var(0), var(0)), result=var(0), differ=((var(0), num(9)),), gives=((num(8), var(0), num(2)),))
        self.exact(compose(made, same, (var(1), var(0))), ((path(
            (var(0), var(0)), ((var(2), var(0), var(0)),), (var(0),), ((var(0), num(3)), (var(0), num(9))),
            ((var(2), var(0), num(4)), (num(8), var(0), num(2))), (("x", var(0)), ("y", var(2))), 4, 0), var(0)),))


class Drawn(Both):
    def test_against_the_words_of_the_document(self):
        seen = set()
        for seed in range(4000):
            terms = Terms(seed)
            made, with_contract = terms.path(), terms.contract()
            actual = terms.row(len(with_contract[1]), made[7], made[8])
            expected = slowly.composed(made, with_contract, actual)
            found, told = self.both(made, with_contract, actual)
            self.assertEqual(told, tuple(way for way, _, _ in expected), seed)
            self.assertEqual(found, tuple((new_path, result) for _, new_path, result in expected), seed)
            seen.update((len(way[0]), way[2], -1 in way[0], max(way[0], default=-1) > 0) for way in told)
        self.assertGreater(len(seen), 20)


if __name__ == "__main__":
    unittest.main()

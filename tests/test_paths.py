import unittest

from heappacts.paths import gone, possible, replaced, start, term_of, with_end, with_name
from helpers import Case, new, num, var


def path(arguments=(), needs=(), absent=(), differ=(), present=(), names=(), variables=9, news=0, end=None, where=()):
    return ("path", arguments, needs, absent, differ, present, names, variables, news, end, where)


def cell(address, first=num(1), second=num(2)):
    return (address, first, second)


class Starting(Case):
    def test_start(self):
        self.exact(start(()), ("path", (), (), (), (), (), (), 0, 0, None, ()))
        self.exact(start(("x",)), ("path", (var(0),), (), (), (), (), (("x", var(0)),), 1, 0, None, ()))
        self.exact(start(("d", "a", "c", "b")), (
            "path", (var(0), var(1), var(2), var(3)), (), (), (), (),
            (("d", var(0)), ("a", var(1)), ("c", var(2)), ("b", var(3))), 4, 0, None, ()))


class Gone(Case):
    def test_nothing(self):
        self.exact(gone(path()), ())
        self.exact(gone(start(("x", "y"))), ())

    def test_needed_cells(self):
        needs = (cell(var(2)), cell(var(0)), cell(num(7)))
        self.exact(gone(path(needs=needs)), (var(2), var(0), num(7)))
        # given back, in another order and with other fields
        self.exact(gone(path(needs=needs, present=needs)), ())
        present = (cell(num(7), var(1)), cell(var(0)), cell(var(2), var(5), var(6)))
        self.exact(gone(path(needs=needs, present=present)), ())
        # moved to another address, and taken
        self.exact(gone(path(needs=needs, present=(cell(var(0)), cell(var(3))))), (var(2), num(7)))
        self.exact(gone(path(needs=needs, present=(cell(var(5), var(2), var(0)),))), (var(2), var(0), num(7)))

    def test_new_addresses(self):
        self.exact(gone(path(news=3)), (new(0), new(1), new(2)))
        self.exact(gone(path(news=3, present=(cell(new(1)),))), (new(0), new(2)))
        self.exact(gone(path(news=2, present=(cell(new(1)), cell(new(0))))), ())
        self.exact(gone(path(news=1, present=(cell(var(0), new(0), new(0)),))), (new(0),))

    def test_both_in_order(self):
        needs = (cell(var(3)), cell(var(1)), cell(var(2)))
        present = (cell(new(0)), cell(var(1)))
        self.exact(gone(path(needs=needs, present=present, news=3)), (var(3), var(2), new(1), new(2)))


class Possible(Case):
    def yes(self, **parts):
        self.exact(possible(path(**parts)), True, parts)

    def no(self, **parts):
        self.exact(possible(path(**parts)), False, parts)

    def test_without_conditions(self):
        self.yes()
        self.exact(possible(start(("x", "y"))), True)

    def test_needed_cells_have_different_addresses(self):
        self.yes(needs=(cell(var(0)), cell(var(1)), cell(num(7)), cell(num(8))))
        self.no(needs=(cell(var(0)), cell(var(0))))
        self.no(needs=(cell(var(0), num(1)), cell(var(1)), cell(var(0), num(5))))
        self.no(needs=(cell(num(7)), cell(var(1)), cell(num(7))))
        self.yes(needs=(cell(var(0), var(1), var(1)), cell(var(1), var(0), var(0))))

    def test_no_needed_cell_has_zero(self):
        self.no(needs=(cell(num(0)),))
        self.no(needs=(cell(var(0)), cell(num(0)), cell(var(2))))
        self.yes(needs=(cell(var(0), num(0), num(0)),))

    def test_absent_addresses(self):
        self.yes(absent=(var(0),))
        self.yes(absent=(var(0), var(1)), needs=(cell(var(2), var(0), var(1)),))
        self.no(absent=(var(0),), needs=(cell(var(0)),))
        self.no(absent=(var(5), var(0)), needs=(cell(var(2)), cell(var(0))))
        self.no(absent=(num(7),), needs=(cell(num(7)),))
        # present cells are not those of the start
        self.yes(absent=(var(0),), present=(cell(var(0)),))

    def test_pairs(self):
        self.yes(differ=((var(0), var(1)), (var(0), num(0)), (num(1), num(2))))
        for term in (var(0), num(0), num(3), new(0)):
            self.no(differ=((term, term),))
            self.no(differ=((var(5), var(6)), (term, term), (var(5), var(7))))
        self.yes(differ=((new(0), new(1)), (new(0), var(0)), (num(0), new(0))))

    def test_new_addresses(self):
        self.no(arguments=(var(0), new(0)))
        self.no(arguments=(new(1), var(0)))
        self.yes(arguments=(var(0), num(5), var(0)))
        self.no(needs=(cell(new(0)),))
        self.no(needs=(cell(var(0)), cell(var(1), new(0))))
        self.no(needs=(cell(var(0)), cell(var(1), num(1), new(0))))
        self.no(absent=(new(0),))
        self.no(absent=(var(0), new(0)))
        self.yes(news=2, present=(cell(new(0), new(1), new(1)), cell(new(1))), names=(("x", new(0)),))

    def test_other_parts_do_not_count(self):
        self.yes(present=(cell(num(0)), cell(var(1)), cell(var(1))))
        self.yes(end="deep", where=(("f", 1),))


NAMES = (("x", var(0)), ("y", num(5)), ("z", new(1)))


class Names(Case):
    def test_term_of(self):
        made = path(names=NAMES)
        for name, term in NAMES:
            self.exact(term_of(made, name), term)
        self.exact(term_of(made, "q"), num(0))
        self.exact(term_of(start(()), "x"), num(0))
        for number in (0, 5, 99):
            self.exact(term_of(made, number), num(number))
        self.exact(term_of(start(("a", "b")), "b"), var(1))

    def test_with_name(self):
        made = path((var(0),), (cell(var(1)),), (var(2),), ((var(3), var(4)),), (cell(var(5)),), NAMES, 8, 3, None, ())
        for name, term, names in (
                ("q", var(7), NAMES + (("q", var(7)),)),
                ("x", num(1), (("x", num(1)), ("y", num(5)), ("z", new(1)))),
                ("y", var(3), (("x", var(0)), ("y", var(3)), ("z", new(1)))),
                ("z", new(2), (("x", var(0)), ("y", num(5)), ("z", new(2)))),
                ("a", num(0), NAMES + (("a", num(0)),))):
            self.exact(with_name(made, name, term), made[:6] + (names,) + made[7:])
        self.exact(made[6], NAMES)

    def test_with_name_again_and_again(self):
        made = start(("p",))
        for name, term in (("b", num(1)), ("a", num(2)), ("b", num(3)), ("p", num(4)), ("c", num(5))):
            made = with_name(made, name, term)
        self.exact(made[6], (("p", num(4)), ("b", num(3)), ("a", num(2)), ("c", num(5))))


class Replacing(Case):
    def test_every_part(self):
        made = path((var(0), var(1)), (cell(var(1), var(2), var(0)),), (var(2), var(1)),
                    ((var(1), var(3)), (num(0), var(2))), (cell(new(0), var(2), var(1)), cell(var(2))),
                    (("x", var(1)), ("v", var(2)), ("w", num(2))), 4, 1, "missing", (("f", 3),))
        self.exact(replaced(made, ((1, var(0)), (2, num(9)))), path(
            (var(0), var(0)), (cell(var(0), num(9), var(0)),), (num(9), var(0)),
            ((var(0), var(3)), (num(0), num(9))), (cell(new(0), num(9), var(0)), cell(num(9))),
            (("x", var(0)), ("v", num(9)), ("w", num(2))), 4, 1, "missing", (("f", 3),)))
        self.exact(replaced(made, ()), made)

    def test_the_rest_stays(self):
        self.exact(replaced(path(variables=7, news=3, end=None), ((0, num(1)),)), path(variables=7, news=3))


class Ending(Case):
    def test_with_end(self):
        made = path((var(0),), (cell(var(1)),), (var(2),), ((var(3), var(4)),), (cell(var(5)),), NAMES, 8, 3)
        for end, where in (("null", (("f", 0),)), ("deep", (("f", 2), ("g", 1))), ("missing", ())):
            self.exact(with_end(made, end, where), made[:9] + (end, where))
        self.exact(with_end(with_end(made, "null", (("f", 0),)), None, ()), made)


if __name__ == "__main__":
    unittest.main()

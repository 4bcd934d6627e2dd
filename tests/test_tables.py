import unittest

from drawn import Drawer, Terms
from heappacts.errors import TooMany
from heappacts.finding import contracts
from heappacts.placing import compose
from heappacts.tables import Table
from helpers import Case, new, num, var
from samples import PROGRAM, SAMPLES

X, Y = var(0), var(1)


def contract(*arguments, differ=()):
    return ("contract", arguments, (), (), differ, "return", num(0), (), (), 0)


def path(arguments=(X, Y), needs=(), differ=()):
    return ("path", arguments, needs, (), differ, needs, (), 9, 2, None, ())


class Fitting(Case):
    ROWS = (contract(num(1), X), contract(num(2), X), contract(X, num(1), differ=((X, num(1)), (num(2), X))),
            contract(X, Y, differ=((X, num(1)), (num(2), X), (Y, num(1)))), contract(X, X), contract(num(0), num(0)))

    def fits(self, made, actual, *numbers):
        found = Table(self.ROWS).fitting(made, actual)
        self.exact(list(found), [self.ROWS[number] for number in numbers])

    def test_constants(self):
        self.fits(path(), (num(1), num(1)), 0, 4)
        self.fits(path(), (num(2), num(1)), 1, 4)
        self.fits(path(), (num(3), num(1)), 2, 4)
        self.fits(path(), (num(3), num(2)), 3, 4)
        self.fits(path(), (num(0), num(0)), 3, 4, 5)

    def test_variables(self):
        self.fits(path(), (X, Y), 0, 1, 2, 3, 4, 5)
        self.fits(path(differ=((X, num(1)), (num(1), Y))), (X, Y), 1, 3, 4, 5)
        self.fits(path(differ=((X, num(1)), (num(1), Y))), (Y, X), 1, 3, 4, 5)
        self.fits(path(differ=((X, num(2)), (X, Y))), (X, num(1)), 0, 2, 4)

    def test_0_and_addresses_of_cells(self):
        self.fits(path(needs=((X, Y, Y),)), (X, Y), 0, 1, 2, 3, 4)
        self.fits(path(needs=((X, Y, Y),)), (Y, Y), 0, 1, 2, 3, 4, 5)

    def test_new_addresses(self):
        # nothing is left out that is not asked for
        self.fits(path(), (new(0), num(0)), 0, 1, 3, 4, 5)

    def test_no_contracts(self):
        self.exact(list(Table(()).fitting(path(), (X, num(1)))), [])

    def left_out(self, rows, made, actual):
        kept = list(Table(rows).fitting(made, actual))
        places = [rows.index(row) for row in kept]
        self.exact(places, sorted(places))
        missing = [row for row in rows if row not in kept]
        for row in missing:
            self.exact(compose(made, row, actual), ())
        return len(missing)

    def test_what_is_left_out_gives_no_new_path(self):
        many = 0
        for seed in range(1500):
            drawer = Terms(seed)
            rows = [row for row in (drawer.contract() for _ in range(12)) if len(row[1]) == 2]
            made = drawer.path()
            actual = drawer.row(2, made[7], made[8])
            many += self.left_out(list(dict.fromkeys(rows)), made, actual)
        self.assertGreater(many, 100)

    def test_contracts_of_procedures(self):
        many = 0
        lists = [contracts(PROGRAM, *sample) for sample in SAMPLES]
        for seed in range(60):
            program = Drawer(seed, 10).program()
            try:
                lists.append(contracts(program, program[-1][1], 2, 1))
            except TooMany:
                pass
        for rows in lists:
            for row in rows:
                made = ("path",) + row[1:5] + (row[2], (), 40, 0, None, ())
                many += self.left_out(list(rows), made, row[1])
        self.assertGreater(many, 50)


if __name__ == "__main__":
    unittest.main()

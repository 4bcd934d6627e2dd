import unittest

import slowcases
from drawn import Drawer
from heappacts.abduction import holds
from heappacts.errors import TooMany
from heappacts.finding import contracts
from heappacts.machine import first_new, run
from heappacts.parsing import parse
from heappacts.triples import holds_always, strongest
from helpers import Case, new, num, var
from samples import PROGRAM, SAMPLES

X, Y, Z, U, V, W = (var(number) for number in range(6))
ZERO = num(0)


def one(body, result="0", parameters="x"):
    return parse(f"procedure f({parameters}) {{ {body} return {result}; }}")


def saying(cells=(), differ=(), after=(), result=ZERO):
    return ("saying", ("formula", cells, differ), after, result)


def worded(term, words, first):
    return words[term[1]] if term[0] == "var" else first + term[1] if term[0] == "new" else term[1]


def is_kept(program, name, depth, turns, said, actual, heap, words):
    """[s1] for one heap and words for which before is true."""
    _, (_, cells, _), after, result = said
    outcome = run(program, name, actual, heap, depth, turns)
    if outcome[0] != "return":
        return False
    words, first = dict(words), first_new(actual, heap)
    places = [worded(cell[0], words, first) for cell in cells]
    left = [cell for cell in heap if cell[0] not in places]
    left += [tuple(worded(term, words, first) for term in cell) for cell in after]
    return outcome[1:3] == (worded(result, words, first), tuple(sorted(left)))


class Holds(Case):
    def found(self, program, said, expected, depth=1, turns=0, name="f"):
        self.exact(holds_always(program, name, depth, turns, said), expected, said)
        self.exact(slowcases.holds_always(program, name, depth, turns, said), expected, said)
        if expected is not None:
            self.shown(program, name, depth, turns, said, expected)

    def shown(self, program, name, depth, turns, said, example):
        """What is given makes the first formula true, and the run ends otherwise."""
        actual, heap, words = example
        self.exact(tuple(word for _, word in words)[:len(actual)], actual)
        self.assertTrue(holds(said[1], words, heap), example)
        self.assertFalse(is_kept(program, name, depth, turns, said, actual, heap, words), example)


class Simple(Holds):
    def test_sayings_that_hold(self):
        cell = (X, Y, Z)
        self.found(one("y = x.first;", "y"), saying((cell,), (), (cell,), Y), None)
        self.found(one("x.first = 5;"), saying((cell,), (), ((X, num(5), Z),), ZERO), None)
        self.found(one("free x;"), saying((cell,), (), (), ZERO), None)
        self.found(one("", "x"), saying((), (), (), X), None)
        self.found(one("", "0", ""), saying(), None)
        self.found(one("", "x", "x, y"), saying(((Y, X, X),), (), ((Y, X, X),), X), None)

    def test_an_end(self):
        self.found(one("y = x.first;", "y"), saying((), (), (), ZERO), ((100,), ((100, 101, 102),), ((0, 100),)))
        self.found(one("y = x.first;"), saying((), (), (), ZERO), ((100,), (), ((0, 100),)))
        self.found(one("y = x.first;"), saying((), ((X, ZERO),), (), ZERO), ((100,), (), ((0, 100),)))
        self.found(one("y = x.first; y = y.first;"), saying(((X, Y, Z),), (), ((X, Y, Z),), ZERO),
                   ((100,), ((100, 101, 102),), ((0, 100), (1, 101), (2, 102))))
        self.found(one("while x != 0 { }"), saying(), ((100,), (), ((0, 100),)), turns=2)

    def test_a_result(self):
        cell = (X, Y, Z)
        for result in (X, Z, ZERO, num(7), new(0)):
            self.found(one("y = x.first;", "y"), saying((cell,), (), (cell,), result),
                       ((100,), ((100, 101, 102),), ((0, 100), (1, 101), (2, 102))))
        # a word that the formula tells
        self.found(one("y = x.first;", "y"), saying(((X, num(7), Z),), (), ((X, num(7), Z),), num(7)), None)
        self.found(one("y = x.first;", "y"), saying(((X, Y, Y),), (), ((X, Y, Y),), Y), None)

    def test_cells(self):
        cell = (X, Y, Z)
        words = ((0, 100), (1, 101), (2, 102))
        for after in ((), (cell,), ((X, Z, num(5)),), ((X, num(5), Z), (Y, Z, Z)), ((X, num(5), Z),) * 2):
            self.found(one("x.first = 5;"), saying((cell,), (), after, ZERO), ((100,), ((100, 101, 102),), words))
        self.found(one(""), saying((cell,), (), (), ZERO), ((100,), ((100, 101, 102),), words))

    def test_in_any_order(self):
        cells = ((X, Z, U), (Y, V, W))
        for after in (cells, cells[::-1]):
            self.found(one("", "0", "x, y"), saying(cells, (), after), None)
        self.found(one("x.first = 1; y.first = 2;", "0", "x, y"),
                   saying(cells, (), ((Y, num(2), W), (X, num(1), U))), None)

    def test_new_addresses(self):
        made = (new(0), X, num(1))
        program = one("y = new(x, 1);", "y")
        self.found(program, saying((), (), (made,), new(0)), None)
        self.found(program, saying((), (), (made,), new(1)), ((100,), (), ((0, 100),)))
        self.found(program, saying((), (), ((new(1), X, num(1)),), new(0)), ((100,), (), ((0, 100),)))
        self.found(program, saying((), (), (), new(0)), ((100,), (), ((0, 100),)))
        program = one("y = new(x, 1); x.first = y; z = new(y, x);", "z")
        self.found(program, saying(((X, Y, Z),), (), ((X, new(0), Z), made, (new(1), new(0), X)), new(1)), None)
        self.found(program, saying(((X, Y, Z),), (), ((X, new(0), Z), made, (new(1), new(0), X)), new(0)),
                   ((100,), ((100, 101, 102),), ((0, 100), (1, 101), (2, 102))))

    def test_formulas_that_can_never_be_true(self):
        program = one("y = 0.first;")
        for cells, differ in (((((ZERO, Y, Z)),), ()), (((X, Y, Z), (X, Y, Z)), ()), ((), ((X, X),)),
                              ((), ((num(3), num(3)),)), (((X, Y, Z),), ((Z, Z),))):
            self.found(program, saying(cells, differ, (), num(3)), None)

    def test_pairs(self):
        program = one("if x = 3 { y = 0.first; }")
        self.found(program, saying(), ((3,), (), ((0, 3),)))
        self.found(program, saying((), ((X, num(3)),)), None)
        self.found(program, saying((), ((num(3), X),)), None)
        program = one("if x = y { y = 0.first; }", "0", "x, y")
        self.found(program, saying((), ((X, Y),)), None)
        self.found(program, saying((), ((X, ZERO),)), ((100, 100), (), ((0, 100), (1, 100))))
        # two needed cells are at two addresses
        self.found(program, saying(((X, Z, Z), (Y, Z, Z)), (), ((X, Z, Z), (Y, Z, Z))), None)

    def test_cells_behind_those_of_before(self):
        program = one("z = x.first; if x = y { } else { z = y.first; }", "0", "x, y")
        self.found(program, saying(((X, Z, U),), (), ((X, Z, U),)),
                   ((100, 101), ((100, 102, 103),), ((0, 100), (1, 101), (2, 102), (3, 103))))
        self.found(program, saying(((X, Z, U),), (), ((X, U, Z),)),
                   ((100, 100), ((100, 101, 102),), ((0, 100), (1, 100), (2, 101), (3, 102))))
        program = one("z = x.first; z = y.first; x.first = 5;", "0", "x, y")
        self.found(program, saying(((X, Z, U),), (), ((X, num(5), U),)),
                   ((100, 101), ((100, 102, 103),), ((0, 100), (1, 101), (2, 102), (3, 103))))

    def test_a_later_way_of_a_contract(self):
        # where the cell is the one of before it is kept, where it is another one it is not
        program = one("x.first = 5;")
        self.found(program, saying(((Y, Z, U),), (), ((Y, num(5), U),)),
                   ((100,), ((100, 104, 105), (101, 102, 103)), ((0, 100), (1, 101), (2, 102), (3, 103))))
        self.found(program, saying(((Y, Z, U),), ((X, Y),), ((Y, num(5), U),)),
                   ((100,), ((100, 104, 105), (101, 102, 103)), ((0, 100), (1, 101), (2, 102), (3, 103))))

    def test_the_first_case(self):
        # the contract of the cell comes first, and there the saying does not hold either
        self.found(one("y = x.first;", "y"), saying((), (), (), num(5)), ((100,), ((100, 101, 102),), ((0, 100),)))
        self.found(one("y = x.first;"), saying((), (), (), num(5)), ((100,), ((100, 101, 102),), ((0, 100),)))
        self.found(one("if x = 1 { } if x = 2 { y = 1; }", "y"), saying(), ((2,), (), ((0, 2),)))

    def test_the_numbers_of_the_words(self):
        far = var(9)
        self.found(one("", "1", "x, y"), saying(((far, X, var(7)),), (), ((far, X, var(7)),)),
                   ((100, 101), ((103, 100, 102),), ((0, 100), (1, 101), (7, 102), (9, 103))))
        self.found(one("", "1", ""), saying((), ((far, var(5)),)), ((), (), ((5, 100), (9, 101))))
        self.found(one("y = x.first;", "1"), saying(((far, far, ZERO),), (), ()),
                   ((100,), ((100, 100, 0),), ((0, 100), (9, 100))))
        self.found(one("if x = 4 { } else { free x; }", "1"), saying(), ((4,), (), ((0, 4),)))

    def test_limits(self):
        program = parse("procedure g(x) { return x; } procedure f(x) { y = g(x); while x != 0 { x = 0; } return x; }")
        self.found(program, saying(), ((100,), (), ((0, 100),)), 1, 1)
        self.found(program, saying(), ((100,), (), ((0, 100),)), 2, 0)
        self.found(program, saying(), None, 2, 1)

    def test_too_many_contracts(self):
        body = "".join(f"if x = {number} {{ }} if y = {number} {{ }} " for number in range(1, 14))
        self.fault(TooMany, {}, holds_always, one(body, "0", "x, y"), "f", 1, 0, saying())

    def test_many_ways_and_the_first_breaks_it(self):
        # a formula of cells any of which may be those that the procedure needs
        cells = tuple((var(number), var(number + 1), var(number + 2)) for number in range(3, 60, 3))
        found = holds_always(one("z = x.first; z = z.first; z = z.first; z = z.first; z = z.first; z = z.first;"), "f",
                             1, 0, saying(cells, (), cells, num(1)))
        self.assertIsNotNone(found)


class Drawn(Holds):
    def drawn_saying(self, drawer, found, many):
        """A saying that is one of a contract, with some change."""
        choice = drawer.random.choice
        rows = [strongest(contract) for contract in found]
        rows = [row for row in rows if row is not None] or [saying((), (), (), ZERO)]
        _, (_, cells, differ), after, result = choice(rows)
        if drawer.random.random() < 0.2 and cells:
            cells = cells[:-1]
        if drawer.random.random() < 0.2 and differ:
            differ = differ[1:]
        told = [("var", number) for number in range(many)] + [term for cell in cells for term in cell]
        if drawer.random.random() < 0.2:
            result = choice(told + [ZERO, new(0)])
        if drawer.random.random() < 0.2 and after:
            after = after[1:]
        if drawer.random.random() < 0.2 and told:
            differ += ((choice(told), choice(told + [ZERO])),)
        known = set(slowcases.numbers((cells, differ))) | set(range(many))
        if not set(slowcases.numbers((after, (result,)))) <= known:
            return None
        return ("saying", ("formula", cells, differ), after, result)

    def test_as_the_document_tells_it(self):
        counts = {}
        for seed in range(500):
            drawer = Drawer(seed, 7)
            program = drawer.program()
            _, name, parameters, _, _ = program[-1]
            depth, turns = drawer.random.randint(1, 3), drawer.random.randint(0, 2)
            try:
                found = contracts(program, name, depth, turns)
            except TooMany:
                continue
            said = self.drawn_saying(drawer, found, len(parameters))
            if said is None or len(said[1][1]) > 3:
                continue
            expected = slowcases.holds_always(program, name, depth, turns, said)
            example = holds_always(program, name, depth, turns, said)
            self.exact(example, expected, (seed, said))
            counts[example is None] = counts.get(example is None, 0) + 1
            if example is not None:
                self.shown(program, name, depth, turns, said, example)
                continue
            rows = sorted(set(slowcases.numbers(said[1][1:])) | set(range(len(parameters))))
            for _ in range(20):
                words = tuple(zip(rows, drawer.words(len(rows))))
                table = dict(words)
                cells = {worded(cell[0], table, 0): tuple(worded(term, table, 0) for term in cell) for cell in said[1][1]}
                cells.update({cell[0]: cell for cell in drawer.heap() if cell[0] not in cells})
                heap = tuple(sorted(cells.values()))
                if 0 not in cells and holds(said[1], words, heap):
                    actual = tuple(table[number] for number in range(len(parameters)))
                    self.assertTrue(is_kept(program, name, depth, turns, said, actual, heap, words), (seed, heap, words))
        self.assertGreater(counts[True], 60)
        self.assertGreater(counts[False], 60)


class Strongest(Case):
    def test_what_it_tells(self):
        made = ("contract", (X, Y), ((X, Z, U),), (), ((Y, ZERO),), "return", Z, ((X, Y, U), (new(0), X, X)), (), 1)
        self.exact(strongest(made), ("saying", ("formula", ((X, Z, U),), ((Y, ZERO),)), ((X, Y, U), (new(0), X, X)), Z))
        made = ("contract", (), (), (), (), "return", num(5), (), (), 0)
        self.exact(strongest(made), ("saying", ("formula", (), ()), (), num(5)))

    def test_all_others(self):
        for arguments in ((ZERO,), (X, X), (X, num(3)), (num(3), X), (Y, X), (Y,)):
            self.exact(strongest(("contract", arguments, (), (), (), "return", ZERO, (), (), 0)), None)
        for end in ("missing", "null", "freed", "deep"):
            absent = (X,) if end == "missing" else ()
            self.exact(strongest(("contract", (X,), (), absent, (), end, None, (), (("f", 0),), 0)), None)

    def check_holds(self, program, name, depth, turns):
        many = 0
        try:
            found = contracts(program, name, depth, turns)
        except TooMany:
            return 0
        for contract in found:
            said = strongest(contract)
            different = contract[1] == tuple(var(number) for number in range(len(contract[1])))
            self.exact(said is not None, contract[5] == "return" and different)
            if said is not None:
                many += 1
                self.exact(holds_always(program, name, depth, turns, said), None, said)
                self.assertIsNotNone(holds_always(program, name, depth, turns, said[:3] + (num(77),)))
        return many

    def test_it_holds_always(self):
        many = 0
        for name, depth, turns in SAMPLES:
            many += self.check_holds(PROGRAM, name, depth, turns)
        for seed in range(200):
            drawer = Drawer(seed, 9)
            program = drawer.program()
            many += self.check_holds(program, program[-1][1], drawer.random.randint(1, 3), drawer.random.randint(0, 2))
        self.assertGreater(many, 80)


if __name__ == "__main__":
    unittest.main()

import unittest

from drawn import Drawer
from heappacts.applying import promised, words_for
from heappacts.asking import explore
from heappacts.errors import TooMany
from heappacts.finding import contracts
from heappacts.machine import run
from heappacts.parsing import parse
from heappacts.unknown import run_unknown
from heappacts.walking import asked, leaves, tree, walk
from helpers import Case, new, num, var
from samples import PROGRAM, SAMPLES
from starts import near, own
from trees import at, loose, ways

ZERO = num(0)
X, Y, Z, U, V = (var(number) for number in range(5))
NEVER = ("never",)


def known(number):
    return ("known", number)


A, B, C, D = (known(number) for number in range(4))


def one(body, result="0", parameters="x, y"):
    return parse("procedure f(" + parameters + ") { " + body + " return " + result + "; }")


def ended(end, where, arguments=(X, Y), needs=(), absent=(), differ=()):
    return ("leaf", ("contract", arguments, needs, absent, differ, end, None, (), (("f", where),), 0))


def returned(result=ZERO, arguments=(X, Y), needs=(), differ=(), gives=(), news=0):
    return ("leaf", ("contract", arguments, needs, (), differ, "return", result, gives, (), news))


class Trees(Case):
    def gives(self, program, expected, depth=1, turns=0, name="f"):
        self.exact(tree(program, name, depth, turns), expected)

    def test_nothing_is_asked(self):
        self.gives(one(""), returned())
        self.gives(one("", "y"), returned(Y))
        self.gives(one("", "7", ""), returned(num(7), ()))
        self.gives(one("z = new(x, 3); z.first = z; a = z.second; free z;", "a"), returned(num(3), news=1))
        self.gives(one("z = 0.first;"), ended("null", 0))
        self.gives(one("while 0 != 1 { }"), ended("deep", 0), turns=2)

    def test_same(self):
        self.gives(one("if y = x { z = 1; } else { z = 2; }", "z"),
                   ("same", B, A, returned(num(1), (X, X)), returned(num(2), differ=((Y, X),))))
        self.gives(one("if 5 = x { z = y; }", "z"),
                   ("same", num(5), A, returned(X, (num(5), X)), returned(differ=((num(5), X),))))

    def test_cell(self):
        cell = (X, Y, Z)
        self.gives(one("z = x.second;", "z", "x"), (
            "same", A, ZERO, ended("null", 0, (ZERO,)), (
                "cell", A, returned(Z, (X,), (cell,), (), (cell,)),
                ended("missing", 0, (X,), (), (X,), ((X, ZERO),)))))

    def test_the_example_of_the_document(self):
        program = parse("procedure drop(x) { free x; y = x.first; return y; }")
        found = tree(program, "drop", 1, 0)
        freed, missing, null = contracts(program, "drop", 1, 0)
        self.exact(found, ("same", A, ZERO, ("leaf", null), ("cell", A, ("leaf", freed), ("leaf", missing))))
        self.exact(leaves(found), (null, freed, missing))

    def test_two_cells(self):
        both = ((X, Z, U), (Y, V, var(5)))
        found = tree(one("x.first = 1; y.first = 2;"), "f", 1, 0)
        there = at(found, (False, True))
        self.exact(there[:3], ("same", B, ZERO))
        self.exact(there[3], ended("null", 1, (X, ZERO), ((X, Y, Z),)))
        self.exact(there[4], (
            "same", B, A, returned(ZERO, (X, X), ((X, Y, Z),), (), ((X, num(2), Z),)), (
                "cell", B, returned(ZERO, (X, Y), both, (), ((X, num(1), U), (Y, num(2), var(5)))),
                ended("missing", 1, (X, Y), ((X, Z, U),), (Y,), ((Y, ZERO),)))))

    def test_what_is_certain_is_not_asked(self):
        self.gives(one("if x = y { z = 1; if y = x { z = 2; } } if x = y { z = new(z, z); }", "z"), (
            "same", A, B, returned(new(0), (X, X), (), (), ((new(0), num(2), num(2)),), 1),
            returned(differ=((X, Y),))))

    def test_no_never(self):
        for name, depth, turns in SAMPLES:
            for _, node in ways(tree(PROGRAM, name, depth, turns)):
                self.assertEqual(node[0], "leaf")

    def test_questions_behind_each_other(self):
        body = "".join(f"if x = {number} {{ y = 1; }} " for number in range(12))
        found = tree(one("while y != 1 { " + body + "y = 1; }", "x"), "f", 1, 1)
        self.exact([answers for answers, _ in ways(found)],
                   [(True,)] + [(False,) * number + (True,) for number in range(1, 13)] + [(False,) * 13])

    def test_deeper_than_python_can_have_calls(self):
        deep = ("leaf", "the last one")
        for number in range(5000):
            deep = ("same", A, num(number % 100), ("leaf", number), deep)
        self.exact(len(leaves(deep)), 5001)
        self.exact(leaves(deep)[-2:], (0, "the last one"))
        self.exact((walk(deep, (3,), ()), asked(deep, (3,), ())), (4903, 97))
        self.exact((walk(deep, (100,), ()), asked(deep, (100,), ())), ("the last one", 5000))


class Leaves(Case):
    """Both roads lead to the same contracts."""

    def check_leaves(self, program, name, depth, turns):
        try:
            found = contracts(program, name, depth, turns)
        except TooMany:
            return 0
        made = leaves(tree(program, name, depth, turns))
        self.exact(type(made), tuple)
        self.assertEqual(len(made), len(found), (name, depth, turns))
        self.assertEqual({loose(leaf) for leaf in made}, {loose(contract) for contract in found})
        return len(found)

    def test_samples(self):
        for name, depth, turns in SAMPLES:
            self.assertGreater(self.check_leaves(PROGRAM, name, depth, turns), 0)

    def test_drawn(self):
        sizes = set()
        for seed in range(600):
            drawer = Drawer(seed, 10)
            program = drawer.program()
            sizes.add(self.check_leaves(program, program[-1][1], drawer.random.randint(1, 4),
                                        drawer.random.randint(0, 3)))
        self.assertGreater(len(sizes), 20)

    def test_each_kind_of_statement(self):
        for body in ("z = x;", "z = x.first;", "x.second = y;", "z = new(x, y);", "free x;", "if x = y { free x; }",
                     "while x != y { x = x.first; }", "free x; z = f(y, x);"):
            for depth in (1, 2, 3):
                for turns in (0, 1, 2):
                    self.assertGreater(self.check_leaves(one(body), "f", depth, turns), 0)

    def test_from_the_left_to_the_right(self):
        rows = [returned(num(number)) for number in range(4)]
        made = ("same", A, B, ("cell", A, rows[0], NEVER), ("same", A, ZERO, ("cell", B, rows[1], rows[2]), rows[3]))
        self.exact(leaves(made), tuple(row[1] for row in rows))
        self.exact(leaves(rows[0]), (rows[0][1],))
        self.exact(leaves(NEVER), ())


class Bound(Case):
    def many(self, first, second):
        """A procedure whose tree has so many leaves as the product."""
        body = "".join(f"if x = {number} {{ }} " for number in range(1, first))
        body += "".join(f"if y = {number} {{ }} " for number in range(1, second))
        return one(body)

    def test_1500_leaves_and_more(self):
        self.exact(len(leaves(tree(self.many(30, 50), "f", 1, 0))), 1500)
        self.fault(TooMany, {}, tree, self.many(19, 79), "f", 1, 0)
        self.fault(TooMany, {}, tree, self.many(90, 90), "f", 1, 0)

    def test_more_than_the_contracts_that_may_be_found(self):
        program = self.many(13, 12)
        self.fault(TooMany, {}, contracts, program, "f", 1, 0)
        self.exact(len(leaves(tree(program, "f", 1, 0))), 156)


class Explored(Case):
    """What goes both ways at a question gives what explore gives."""

    def test_the_same_leaves_in_the_same_order(self):
        for seed in range(150):
            drawer = Drawer(seed, 10)
            program = drawer.program()
            _, name, parameters, _, _ = program[-1]
            depth, turns = drawer.random.randint(1, 3), drawer.random.randint(0, 2)
            terms = tuple(known(number) for number in range(len(parameters)))
            try:
                found = explore(lambda asker: run_unknown(asker, program, name, terms, depth, turns), len(terms))
            except TooMany:
                self.fault(TooMany, {}, tree, program, name, depth, turns)
                continue
            made = ways(tree(program, name, depth, turns))
            self.assertEqual([answers for answers, _ in made], [answers for answers, _, _ in found], seed)
            self.assertEqual([(node[1][5], node[1][8], node[1][9] if value[0] == "return" else value[5])
                              for (_, node), (_, _, value) in zip(made, found)],
                             [(value[0], value[3], value[5]) for _, _, value in found])


class Walk(Case):
    def test_words(self):
        made = ("same", A, num(7), ("leaf", 1), ("cell", B, ("same", C, D, ("leaf", 2), ("leaf", 3)), ("leaf", 4)))
        heap = ((5, 1, 1), (6, 1, 2), (8, 9, 9))
        for actual, leaf, many in (((7, 5), 1, 1), ((5, 5), 2, 3), ((5, 6), 3, 3), ((5, 7), 4, 2), ((5, 0), 4, 2),
                                   ((7, 7), 1, 1), ((8, 8), 2, 3)):
            self.exact(walk(made, actual, heap), leaf)
            self.exact(asked(made, actual, heap), many)

    def test_fields_are_numbered_in_the_order_of_the_cells(self):
        made = ("cell", B, ("cell", A, ("same", known(4), known(3), ("leaf", 1), ("leaf", 2)), ("leaf", 3)), ("leaf", 4))
        self.exact(walk(made, (5, 6), ((5, 1, 2), (6, 3, 1))), 1)
        self.exact(walk(made, (5, 6), ((5, 3, 2), (6, 3, 1))), 2)
        self.exact(walk(made, (5, 6), ((6, 3, 1),)), 3)
        self.exact(walk(made, (5, 6), ((5, 3, 1),)), 4)

    def test_never(self):
        made = ("same", A, ZERO, ("cell", A, NEVER, ("leaf", 1)), ("same", num(1), num(2), NEVER, NEVER))
        self.exact((walk(made, (0,), ()), asked(made, (0,), ())), (1, 2))
        self.exact((walk(made, (3,), ()), asked(made, (3,), ())), (None, 2))
        self.exact((walk(NEVER, (3,), ()), asked(NEVER, (3,), ())), (None, 0))

    def test_one_leaf(self):
        self.exact((walk(("leaf", "this"), (), ()), asked(("leaf", "this"), (), ())), ("this", 0))

    def one_applies(self, program, name, depth, turns, made, actual, heap):
        found = walk(made, actual, heap)
        words = words_for(found, actual, heap)
        self.assertIsNotNone(words, (name, actual, heap))
        self.exact(promised(found, actual, heap, words), run(program, name, actual, heap, depth, turns))
        self.assertLessEqual(asked(made, actual, heap), max(len(answers) for answers, _ in ways(made)))

    def check_walks(self, drawer, program, name, depth, turns):
        try:
            made = tree(program, name, depth, turns)
        except TooMany:
            return
        for answers, (_, contract) in ways(made):
            actual, heap = own(contract)
            self.exact(walk(made, actual, heap), contract)
            self.exact(asked(made, actual, heap), len(answers))
            for actual, heap in near(drawer, contract):
                self.one_applies(program, name, depth, turns, made, actual, heap)
        for _ in range(10):
            actual = drawer.words(len(contract[1]))
            self.one_applies(program, name, depth, turns, made, actual, drawer.heap())

    def test_samples(self):
        for seed, (name, depth, turns) in enumerate(SAMPLES):
            self.check_walks(Drawer(seed), PROGRAM, name, depth, turns)

    def test_drawn(self):
        for seed in range(150):
            drawer = Drawer(seed, 8)
            program = drawer.program()
            self.check_walks(drawer, program, program[-1][1], drawer.random.randint(1, 3), drawer.random.randint(0, 2))


if __name__ == "__main__":
    unittest.main()

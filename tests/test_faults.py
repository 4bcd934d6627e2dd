import unittest

from heappacts.errors import TooMany
from heappacts.faults import faults, returning, safe
from heappacts.finding import contracts
from heappacts.parsing import parse
from helpers import Case, num, var
from samples import PROGRAM

X, Y = var(0), var(1)


def ended(end, where=()):
    return ("contract", (X,), (), (), (), end, num(0) if end == "return" else None, (), where, 0)


class Faults(Case):
    def test_none(self):
        self.exact(faults(()), ())
        self.exact(faults((ended("return"), ended("return"))), ())

    def test_two_contracts_with_one_end_and_where(self):
        f, g = (("f", 0),), (("f", 1), ("g", 0))
        rows = (ended("return"), ended("null", f), ended("missing", f), ended("null", f), ended("null", g),
                ended("return"), ended("missing", f), ended("deep", g), ended("null", f), ended("freed", g))
        self.exact(faults(rows), (("null", f, (1, 3, 8)), ("missing", f, (2, 6)), ("null", g, (4,)), ("deep", g, (7,)),
                                  ("freed", g, (9,))))
        self.exact(faults(rows[::-1]), (("freed", g, (0,)), ("null", f, (1, 6, 8)), ("deep", g, (2,)),
                                        ("missing", f, (3, 7)), ("null", g, (5,))))

    def test_of_procedures(self):
        self.exact(faults(contracts(PROGRAM, "drop", 1, 0)), (
            ("freed", (("drop", 1),), (0,)), ("missing", (("drop", 0),), (1,)), ("null", (("drop", 0),), (2,))))
        self.exact(faults(contracts(PROGRAM, "freeall", 1, 2)), (
            ("deep", (("freeall", 0),), (3,)), ("freed", (("freeall", 1),), (4,)),
            ("missing", (("freeall", 1),), (5, 6))))

    def test_the_calls_that_lead_to_it_tell_faults_apart(self):
        program = parse("procedure g(a) { free a; return 0; } procedure f(x, y) { x = g(x); y = g(y); return 0; }")
        self.exact(faults(contracts(program, "f", 2, 0)), (
            ("freed", (("f", 1), ("g", 0)), (1,)), ("missing", (("f", 1), ("g", 0)), (2,)),
            ("null", (("f", 1), ("g", 0)), (3,)), ("missing", (("f", 0), ("g", 0)), (4,)),
            ("null", (("f", 0), ("g", 0)), (5,))))


class Returning(Case):
    def test_numbers(self):
        self.exact(returning(()), ())
        self.exact(returning((ended("null"), ended("deep"))), ())
        rows = (ended("null"), ended("return"), ended("missing"), ended("return"), ended("freed"), ended("return"))
        self.exact(returning(rows), (1, 3, 5))
        self.exact(returning(contracts(PROGRAM, "drop", 1, 0)), ())
        self.exact(returning(contracts(PROGRAM, "swap", 1, 0)), (0, 1))


class Safe(Case):
    def safe(self, text, expected, name="f", depth=1, turns=0):
        program = parse(text)
        self.exact(safe(program, name, depth, turns), expected)

    def test_accesses_that_always_find_their_cell(self):
        self.safe("procedure f(x) { y = new(x, x); z = y.first; y.second = z; free y; return 0; }",
                  (("f", 1), ("f", 2), ("f", 3)))

    def test_only_the_first_of_several(self):
        self.safe("procedure f(x) { y = x.first; z = x.second; x.first = z; free x; return 0; }",
                  (("f", 1), ("f", 2), ("f", 3)))

    def test_accesses_that_sometimes_do_not(self):
        for access in ("y = x.first;", "x.first = 1;", "free x;"):
            self.safe("procedure f(x) { " + access + " return 0; }", ())
            self.safe("procedure f(x) { " + access + " y = new(0, 0); free y; return 0; }", (("f", 2),))

    def test_each_end(self):
        # null alone, missing alone, freed alone
        self.safe("procedure f() { free 0; return 0; }", ())
        self.safe("procedure f() { free 5; return 0; }", ())
        self.safe("procedure f() { x = new(0, 0); free x; free x; return 0; }", (("f", 1),))

    def test_accesses_that_are_never_reached(self):
        self.safe("procedure f(x) { if 1 = 2 { free x; } y = new(0, 0); free y; return 0; }", (("f", 3),))
        self.safe("procedure f(x) { y = new(0, 0); while y != 0 { free y; y = y.first; free y; } return 0; }",
                  (("f", 2),), turns=2)

    def test_other_statements_are_no_accesses(self):
        self.safe("procedure g(a) { return a; } procedure f(x) { y = 1; if x = y { x = g(x); } while x != x { } "
                  "y = new(0, 0); return 0; }", (), depth=2)

    def test_accesses_that_end_only_within_a_call(self):
        text = ("procedure g(a) { b = a.first; return b; } "
                "procedure f(x) { y = new(x, x); z = g(y); z = y.first; z = g(x); z = x.first; return z; }")
        self.safe(text, (("f", 2), ("f", 4)), depth=2)
        self.safe(text, (), depth=1)
        self.safe(text, (), name="g")
        once = text.replace("z = g(x); z = x.first;", "")
        self.safe(once, (("g", 0), ("f", 2)), depth=2)

    def test_deep_ends_are_no_faults_of_an_access(self):
        self.safe("procedure f(x) { y = new(x, 0); while y != 0 { y = y.second; } return 0; }", (("f", 2),), turns=1)
        self.safe("procedure f(x) { y = new(x, 0); while y != 0 { y = y.first; } return 0; }", (), turns=2)

    def test_places_of_one_number_in_two_procedures(self):
        text = ("procedure g(a) { free a; return 0; } procedure f(x) { y = new(0, 0); free y; z = new(0, 0); "
                "z = g(z); y = g(x); return 0; }")
        self.safe(text, (("f", 1),), depth=2)

    def test_too_many(self):
        program = parse("procedure f(a, b, c, d) { " + "".join(
            f"if {name} = {number} {{ }} " for name in "abcd" for number in (1, 2, 3)) + "return 0; }")
        self.fault(TooMany, {}, safe, program, "f", 1, 0)


if __name__ == "__main__":
    unittest.main()

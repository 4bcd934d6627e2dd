import unittest

from heappacts.rules import actual_of, deep_contract, rules
from helpers import Case, new, num, var

OPERANDS = (("x", "y"), ("x", "x"), (0, "x"), ("y", 7), (5, 5), (3, 4))

MISSING = ("contract", (var(0),), (), (var(0),), ((var(0), num(0)),), "missing", None, (), (), 0)
NULL = ("contract", (num(0),), (), (), (), "null", None, (), (), 0)
MISSING_STORE = ("contract", (var(0), var(1)), (), (var(0),), ((var(0), num(0)),), "missing", None, (), (), 0)
NULL_STORE = ("contract", (num(0), var(0)), (), (), (), "null", None, (), (), 0)
CELL = (var(0), var(1), var(2))
STORE_CELL = (var(0), var(2), var(3))
SAME = ("contract", (var(0), var(0)), (), (), (), "return", None, (), (), 0)
UNLIKE = ("contract", (var(0), var(1)), (), (), ((var(0), var(1)),), "return", None, (), (), 0)


class Rules(Case):
    """The contracts hang on the kind and the field alone, not on the operands."""

    def test_load(self):
        for a, _ in OPERANDS:
            for field, result in ((0, var(1)), (1, var(2))):
                good = ("contract", (var(0),), (CELL,), (), (), "return", result, (CELL,), (), 0)
                self.exact(rules(("load", 3, "v", a, field)), (good, MISSING, NULL))

    def test_store(self):
        for a, b in OPERANDS:
            for field, given in ((0, (var(0), var(1), var(3))), (1, (var(0), var(2), var(1)))):
                good = ("contract", (var(0), var(1)), (STORE_CELL,), (), (), "return", None, (given,), (), 0)
                self.exact(rules(("store", 2, a, field, b)), (good, MISSING_STORE, NULL_STORE))

    def test_free(self):
        good = ("contract", (var(0),), (CELL,), (), (), "return", None, (), (), 0)
        for a, _ in OPERANDS:
            self.exact(rules(("free", 4, a)), (good, MISSING, NULL))

    def test_new(self):
        given = (new(0), var(0), var(1))
        only = ("contract", (var(0), var(1)), (), (), (), "return", new(0), (given,), (), 1)
        for a, b in OPERANDS:
            self.exact(rules(("new", 0, "v", a, b)), (only,))

    def test_comparisons(self):
        inner = (("set", 1, "v", 1),)
        for a, b in OPERANDS:
            self.exact(rules(("if", 0, a, b, inner, ())), (SAME, UNLIKE))
            self.exact(rules(("if", 0, a, b, (), inner)), (SAME, UNLIKE))
            self.exact(rules(("while", 0, a, b, inner)), (SAME, UNLIKE))


class Actual(Case):
    def test_each_kind(self):
        for a, b in OPERANDS:
            for field in (0, 1):
                self.exact(actual_of(("load", 1, "v", a, field)), (a,))
                self.exact(actual_of(("store", 1, a, field, b)), (a, b))
            self.exact(actual_of(("free", 1, a)), (a,))
            self.exact(actual_of(("new", 1, "v", a, b)), (a, b))
            self.exact(actual_of(("if", 1, a, b, (), ())), (a, b))
            self.exact(actual_of(("while", 1, a, b, (("free", 2, "v"),))), (a, b))

    def test_calls(self):
        for actual in ((), ("x",), (1, 1), ("x", 2, "x"), ("a", "b", 3, "d")):
            self.exact(actual_of(("call", 1, "v", "f", actual)), actual)


class Deep(Case):
    def test_each_number_of_parameters(self):
        for many in range(5):
            arguments = tuple(var(number) for number in range(many))
            self.exact(deep_contract(many), ("contract", arguments, (), (), (), "deep", None, (), (), 0))


if __name__ == "__main__":
    unittest.main()

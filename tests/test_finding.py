import time
import unittest

import slowly
from drawn import Drawer
from heappacts.checking import check, procedure_of
from heappacts.errors import TooMany
from heappacts.finding import body_paths, contracts
from heappacts.parsing import parse
from heappacts.rules import deep_contract
from helpers import Case, new, num, var

X, Y, Z, U, V, W = (var(number) for number in range(6))
ZERO = num(0)


def one(body, result="0", parameters="x"):
    program = parse("procedure f(" + parameters + ") { " + body + " return " + result + "; }")
    check(program)
    return program


def returning(arguments=(), needs=(), result=ZERO, gives=(), differ=(), news=0):
    return ("contract", arguments, needs, (), differ, "return", result, gives, (), news)


def ending(end, arguments=(), needs=(), absent=(), differ=(), where=(("f", 0),)):
    return ("contract", arguments, needs, absent, differ, end, None, (), where, 0)


def no_cell(where=(("f", 0),)):
    """The two contracts where no cell is at the only argument."""
    return (ending("missing", (X,), (), (X,), ((X, ZERO),), where), ending("null", (ZERO,), where=where))


class Contracts(Case):
    def found(self, program, *expected, depth=1, turns=0, name="f"):
        self.exact(contracts(program, name, depth, turns), tuple(expected))


class Example(Contracts):
    def test_the_example_of_the_document(self):
        program = parse("procedure drop(x) { free x; y = x.first; return y; }")
        self.exact(contracts(program, "drop", 1, 0), (
            ('contract', (('var', 0),), ((('var', 0), ('var', 1), ('var', 2)),), (), (), 'freed', None, (),
             (('drop', 1),), 0),
            ('contract', (('var', 0),), (), (('var', 0),), ((('var', 0), ('num', 0)),), 'missing', None, (),
             (('drop', 0),), 0),
            ('contract', (('num', 0),), (), (), (), 'null', None, (), (('drop', 0),), 0)))


class Simple(Contracts):
    def test_no_statement(self):
        self.found(one("", "0", ""), returning())
        self.found(one("", "7", ""), returning(result=num(7)))
        self.found(one("", "x"), returning((X,), result=X))
        self.found(one("", "d", "a, b, c, d"), returning((X, Y, Z, U), result=U))

    def test_a_name_never_set(self):
        self.found(one("", "y"), returning((X,)))
        self.found(one("y.first = 1;"), ending("null", (X,)))
        self.found(one("if y = 0 { z = 1; } else { z = 2; }", "z"), returning((X,), result=num(1)))
        self.found(one("z = new(y, 3);", "y", ""), returning((), (), ZERO, ((new(0), ZERO, num(3)),), (), 1))

    def test_set(self):
        self.found(one("y = x; x = 5;", "y"), returning((X,), result=X))
        self.found(one("y = x; x = 5;", "x"), returning((X,), result=num(5)))
        self.found(one("z = y; y = x; x = z; y = 9;", "x", "x, y"), returning((X, Y), result=Y))

    def test_load(self):
        cell = (X, Y, Z)
        self.found(one("y = x.first;", "y"), returning((X,), (cell,), Y, (cell,)), *no_cell())
        self.found(one("y = x.second;", "y"), returning((X,), (cell,), Z, (cell,)), *no_cell())
        self.found(one("x = x.first;", "x"), returning((X,), (cell,), Y, (cell,)), *no_cell())

    def test_load_at_a_constant(self):
        cell = (num(7), X, Y)
        self.found(one("y = 7.second;", "y", ""), returning((), (cell,), Y, (cell,)),
                   ending("missing", (), (), (num(7),)))
        self.found(one("y = 0.second;", "y", ""), ending("null"))

    def test_store(self):
        first, second = ((X, Y, U),), ((X, Z, Y),)
        missing = ending("missing", (X, Y), (), (X,), ((X, ZERO),))
        null = ending("null", (ZERO, X))
        self.found(one("x.first = y;", "0", "x, y"), returning((X, Y), ((X, Z, U),), ZERO, first), missing, null)
        self.found(one("x.second = y;", "0", "x, y"), returning((X, Y), ((X, Z, U),), ZERO, second), missing, null)
        self.found(one("x.first = x;"), returning((X,), ((X, Y, Z),), ZERO, ((X, X, Z),)), *no_cell())
        self.found(one("x.second = 4;"), returning((X,), ((X, Y, Z),), ZERO, ((X, Y, num(4)),)), *no_cell())

    def test_free(self):
        self.found(one("free x;"), returning((X,), ((X, Y, Z),)), *no_cell())

    def test_new(self):
        self.found(one("y = new(x, 3);", "y"), returning((X,), (), new(0), ((new(0), X, num(3)),), (), 1))
        self.found(one("y = new(x, 3); x = new(y, x);", "y"), returning(
            (X,), (), new(0), ((new(0), X, num(3)), (new(1), new(0), X)), (), 2))

    def test_a_cell_that_is_made_and_freed(self):
        self.found(one("y = new(x, x); free y;", "y"), returning((X,), (), new(0), (), (), 1))
        self.found(one("y = new(x, x); free y; z = new(1, y);", "z"), returning(
            (X,), (), new(1), ((new(1), num(1), new(0)),), (), 2))
        self.found(one("y = new(x, x); free y; y = y.first;", "y"), ending("freed", (X,), where=(("f", 2),)))
        self.found(one("y = new(x, x); free y; free y;", "y"), ending("freed", (X,), where=(("f", 2),)))

    def test_new_cells_are_read_and_written(self):
        self.found(one("y = new(x, 3); x = y.second; y.first = x;", "x"), returning(
            (X,), (), num(3), ((new(0), num(3), num(3)),), (), 1))

    def test_an_old_word_is_no_new_address(self):
        cell = (X, Y, Z)
        self.found(one("y = new(1, 2); y = x.first;", "y"),
                   returning((X,), (cell,), Y, ((new(0), num(1), num(2)), cell), (), 1),
                   *no_cell((("f", 1),)))

    def test_a_cell_that_is_freed_and_accessed(self):
        needs = ((X, Y, Z),)
        for access in ("free x;", "x.first = 1;", "y = x.second;"):
            self.found(one("free x; " + access), ending("freed", (X,), needs, where=(("f", 1),)), *no_cell())

    def test_another_cell_than_the_freed_one(self):
        self.found(one("free x; z = y.first;", "z", "x, y"),
                   returning((X, Y), ((X, Z, U), (Y, V, W)), V, ((Y, V, W),)),
                   ending("freed", (X, X), ((X, Y, Z),), where=(("f", 1),)),
                   ending("missing", (X, Y), ((X, Z, U),), (Y,), ((Y, ZERO),), (("f", 1),)),
                   ending("null", (X, ZERO), ((X, Y, Z),), where=(("f", 1),)),
                   ending("missing", (X, Y), (), (X,), ((X, ZERO),)),
                   ending("null", (ZERO, X)))

    def test_cells_that_are_one_and_the_same(self):
        both = ((X, Z, U), (Y, V, W))
        self.found(one("x.first = 1; y.first = 2;", "0", "x, y"),
                   returning((X, X), ((X, Y, Z),), ZERO, ((X, num(2), Z),)),
                   returning((X, Y), both, ZERO, ((X, num(1), U), (Y, num(2), W))),
                   ending("missing", (X, Y), ((X, Z, U),), (Y,), ((Y, ZERO),), (("f", 1),)),
                   ending("null", (X, ZERO), ((X, Y, Z),), where=(("f", 1),)),
                   ending("missing", (X, Y), (), (X,), ((X, ZERO),)),
                   ending("null", (ZERO, X)))

    def test_a_chain(self):
        two = ((X, Y, Z), (Y, U, V))
        self.found(one("x = x.first; x = x.first;", "x"),
                   returning((X,), ((X, X, Y),), X, ((X, X, Y),)),
                   returning((X,), two, U, two),
                   ending("missing", (X,), ((X, Y, Z),), (Y,), ((Y, ZERO),), (("f", 1),)),
                   ending("null", (X,), ((X, ZERO, Y),), where=(("f", 1),)),
                   *no_cell())


class Branches(Contracts):
    def test_if(self):
        program = one("if x = y { z = 1; } else { z = 2; }", "z", "x, y")
        self.found(program, returning((X, X), result=num(1)), returning((X, Y), result=num(2), differ=((X, Y),)))

    def test_if_without_else(self):
        self.found(one("z = 2; if x = 7 { z = 1; }", "z"),
                   returning((num(7),), result=num(1)), returning((X,), result=num(2), differ=((X, num(7)),)))

    def test_an_empty_yes(self):
        self.found(one("if x = 7 { } else { x = 1; }", "x"),
                   returning((num(7),), result=num(7)), returning((X,), result=num(1), differ=((X, num(7)),)))

    def test_what_is_certain_has_one_way(self):
        for words, result in (("x = x", 1), ("3 = 3", 1), ("3 = 4", 2)):
            self.found(one("if " + words + " { z = 1; } else { z = 2; }", "z"), returning((X,), result=num(result)))
        self.found(one("y = new(0, 0); if y = x { z = 1; } else { z = 2; }", "z"),
                   returning((X,), (), num(2), ((new(0), ZERO, ZERO),), (), 1))
        self.found(one("y = x.first; if x = 0 { z = 1; } else { z = 2; }", "z"),
                   returning((X,), ((X, Y, Z),), num(2), ((X, Y, Z),)), *no_cell())

    def test_the_same_pair_again(self):
        self.found(one("if x = y { } else { if y = x { z = 1; } else { z = 2; } } if x = y { } else { }", "z", "x, y"),
                   returning((X, X)), returning((X, Y), result=num(2), differ=((X, Y),)))

    def test_branches_that_end(self):
        self.found(one("if x = 1 { y = 0.first; } else { y = 0.second; }"),
                   ending("null", (num(1),), where=(("f", 1),)),
                   ending("null", (X,), differ=((X, num(1)),), where=(("f", 2),)))

    def test_depth_first(self):
        self.found(one("if x = 1 { y = 1; } if z = 2 { y = 3; }", "y", "x, z"),
                   returning((num(1), num(2)), result=num(3)),
                   returning((num(1), X), result=num(1), differ=((X, num(2)),)),
                   returning((X, num(2)), result=num(3), differ=((X, num(1)),)),
                   returning((X, Y), result=ZERO, differ=((X, num(1)), (Y, num(2)))))

    def test_within(self):
        self.found(one("if x = 1 { if z = 2 { y = 3; } else { y = 4; } y = 5; }", "y", "x, z"),
                   returning((num(1), num(2)), result=num(5)),
                   returning((num(1), X), result=num(5), differ=((X, num(2)),)),
                   returning((X, Y), differ=((X, num(1)),)))


class Loops(Contracts):
    def test_no_turn(self):
        self.found(one("while x != y { x = 1; }", "x", "x, y"),
                   returning((X, X), result=X), ending("deep", (X, Y), differ=((X, Y),)))

    def test_one_turn(self):
        self.found(one("while x != 7 { x = y; }", "x", "x, y"),
                   returning((num(7), X), result=num(7)),
                   returning((X, num(7)), result=num(7), differ=((X, num(7)),)),
                   ending("deep", (X, Y), differ=((X, num(7)), (Y, num(7)))), turns=1)

    def test_a_chain(self):
        program = one("while x != 0 { x = x.first; }", "x")
        cell, two = (X, Y, Z), ((X, Y, Z), (Y, U, V))
        self.found(program, returning((ZERO,)), ending("deep", (X,), differ=((X, ZERO),)))
        missing = ending("missing", (X,), (), (X,), ((X, ZERO),), (("f", 1),))
        self.found(program, returning((ZERO,)),
                   returning((X,), ((X, ZERO, Y),), ZERO, ((X, ZERO, Y),)),
                   ending("deep", (X,), (cell,), (), ((Y, ZERO),)),
                   missing, turns=1)
        self.found(program, returning((ZERO,)),
                   returning((X,), ((X, ZERO, Y),), ZERO, ((X, ZERO, Y),)),
                   ending("deep", (X,), ((X, X, Y),)),
                   returning((X,), ((X, Y, Z), (Y, ZERO, U)), ZERO, ((X, Y, Z), (Y, ZERO, U))),
                   ending("deep", (X,), two, (), ((U, ZERO),)),
                   ending("missing", (X,), (cell,), (Y,), ((Y, ZERO),), (("f", 1),)),
                   missing, turns=2)

    def test_every_turn_counts_and_a_loop_reached_again_has_all_of_them(self):
        program = one("while x != 0 { y = 0; while y != 1 { y = 1; } x = z; z = u; u = 0; }", "x", "x, z, u")
        self.found(program, returning((ZERO, X, Y), result=ZERO), returning((X, ZERO, Y), differ=((X, ZERO),)),
                   returning((X, Y, ZERO), differ=((X, ZERO), (Y, ZERO))),
                   returning((X, Y, Z), differ=((X, ZERO), (Y, ZERO), (Z, ZERO))), turns=3)
        self.found(program, returning((ZERO, X, Y), result=ZERO), returning((X, ZERO, Y), differ=((X, ZERO),)),
                   returning((X, Y, ZERO), differ=((X, ZERO), (Y, ZERO))),
                   ending("deep", (X, Y, Z), differ=((X, ZERO), (Y, ZERO), (Z, ZERO))), turns=2)

    def test_what_is_certain(self):
        self.found(one("while x != x { x = 0.first; }", "x"), returning((X,), result=X))
        for turns in range(4):
            self.found(one("while 0 != 1 { }", "x"), ending("deep", (X,)), turns=turns)


class Calls(Contracts):
    def test_beyond_the_depth(self):
        program = parse("procedure g(a) { return a; } procedure f(x, y) { if x = y { z = g(x); } return z; }")
        self.found(program, ending("deep", (X, X), where=(("f", 1),)), returning((X, Y), differ=((X, Y),)))
        self.found(program, returning((X, X), result=X), returning((X, Y), differ=((X, Y),)), depth=2)
        self.found(program, returning((X,), result=X), name="g")

    def test_of_itself(self):
        program = one("if x = 0 { y = 7; } else { x = x.first; y = f(x); }", "y")
        cell = (X, Y, Z)
        missing = ending("missing", (X,), (), (X,), ((X, ZERO),), (("f", 2),))
        self.found(program, returning((ZERO,), result=num(7)), ending("deep", (X,), (cell,), where=(("f", 3),)), missing)
        self.found(program, returning((ZERO,), result=num(7)),
                   returning((X,), ((X, ZERO, Y),), num(7), ((X, ZERO, Y),)),
                   ending("deep", (X,), ((X, X, Y),), where=(("f", 3), ("f", 3))),
                   ending("deep", (X,), (cell, (Y, U, V)), where=(("f", 3), ("f", 3))),
                   ending("missing", (X,), (cell,), (Y,), ((Y, ZERO),), (("f", 3), ("f", 2))),
                   missing, depth=2)
        for depth in (1, 2, 3, 4):
            deep = [contract for contract in contracts(program, "f", depth, 0) if contract[5] == "deep"]
            self.exact({contract[8] for contract in deep}, {(("f", 3),) * depth})

    def test_the_same_procedure_twice(self):
        program = parse("procedure g(a) { b = a.first; a.first = 9; return b; } "
                        "procedure f(x) { y = g(x); x = g(x); return x; }")
        cell = (X, Y, Z)
        self.found(program, returning((X,), (cell,), num(9), ((X, num(9), Z),)),
                   *no_cell((("f", 0), ("g", 0))), depth=2)

    def test_two_new_addresses_of_one_procedure(self):
        program = parse("procedure g(a) { b = new(a, 0); return b; } "
                        "procedure f(x) { y = g(x); z = g(y); free y; return z; }")
        self.found(program, returning((X,), (), new(1), ((new(1), new(0), ZERO),), (), 2), depth=2)

    def test_where_through_calls(self):
        program = parse("procedure h(a) { a.first = 1; return a; } "
                        "procedure g(a) { b = 1; a = h(a); return a; } "
                        "procedure f(x) { y = 1; if y = 1 { x = g(x); } free x; x = h(x); return x; }")
        self.found(program,
                   ending("freed", (X,), ((X, Y, Z),), where=(("f", 4), ("h", 0))),
                   *no_cell((("f", 2), ("g", 1), ("h", 0))), depth=3)
        self.found(program, ending("deep", (X,), where=(("f", 2), ("g", 1))), depth=2)
        self.found(program, ending("deep", (X,), where=(("f", 2),)), depth=1)

    def test_a_loop_within_a_call(self):
        program = parse("procedure g(a) { while a != 0 { a = 0; } return 3; } procedure f(x) { x = g(x); return x; }")
        self.found(program, returning((ZERO,), result=num(3)),
                   ending("deep", (X,), differ=((X, ZERO),), where=(("f", 0), ("g", 0))), depth=2)
        self.found(program, returning((ZERO,), result=num(3)),
                   returning((X,), result=num(3), differ=((X, ZERO),)), depth=2, turns=1)

    def test_missing_in_the_call_is_freed_in_the_caller(self):
        program = parse("procedure g(a) { free a; return 0; } procedure f(x, y) { free x; z = g(y); return z; }")
        where = (("f", 1), ("g", 0))
        self.found(program,
                   returning((X, Y), ((X, Z, U), (Y, V, W))),
                   ending("freed", (X, X), ((X, Y, Z),), where=where),
                   ending("missing", (X, Y), ((X, Z, U),), (Y,), ((Y, ZERO),), where),
                   ending("null", (X, ZERO), ((X, Y, Z),), where=where),
                   ending("missing", (X, Y), (), (X,), ((X, ZERO),)),
                   ending("null", (ZERO, X)), depth=2)

    def test_needed_by_the_call_and_made_by_the_caller(self):
        program = parse("procedure g(a) { b = a.first; a.first = 5; return b; } "
                        "procedure f(x) { y = new(x, 1); z = g(y); return z; }")
        self.found(program, returning((X,), (), X, ((new(0), num(5), num(1)),), (), 1), depth=2)

    def test_constants_and_the_same_operand_twice(self):
        program = parse("procedure g(a, b) { if a = b { c = 1; } else { c = 2; } return c; } "
                        "procedure f(x) { y = g(x, x); z = g(x, 4); z = new(y, z); return z; }")
        self.found(program,
                   returning((num(4),), (), new(0), ((new(0), num(1), num(1)),), (), 1),
                   returning((X,), (), new(0), ((new(0), num(1), num(2)),), ((X, num(4)),), 1), depth=2)

    def test_a_call_without_arguments(self):
        program = parse("procedure g() { return 8; } procedure f() { x = g(); return x; }")
        self.found(program, returning(result=num(8)), depth=2)
        self.found(program, ending("deep"), depth=1)

    def test_nothing_handed_in_is_changed(self):
        text = "procedure g(a) { free a; return 0; } procedure f(x, y) { free x; z = g(y); return z; }"
        program = parse(text)
        contracts(program, "f", 2, 0)
        self.exact(program, parse(text))


TESTS = "".join(f"if {name} = {number} {{ }} " for name, many in (("a", 4), ("b", 4), ("c", 2), ("d", 1))
                for number in range(many))
EDGE = f"""
procedure good(a, b, c, d) {{ {TESTS} return 0; }}
procedure bad(a, b, c, d) {{ free 7; {TESTS} return 0; }}
procedure calls(a) {{ if a = 0 {{ a = good(0, 0, 0, 0); }} return 0; }}
procedure callsbad(a) {{ if 0 = 1 {{ a = bad(0, 0, 0, 0); }} return 0; }}
procedure again(a) {{ a = callsbad(a); return 0; }}
"""
CELLS = """
procedure a() { """ + "".join(f"y = {number}.first; " for number in range(1, 15)) + """ return 0; }
procedure b() { """ + "".join(f"y = {number}.first; " for number in range(15, 29)) + """ return 0; }
procedure thirty() { y = a(); y = b(); y = 29.first; y = 30.first; return 0; }
procedure onemore() { y = a(); y = b(); y = 29.first; y = 30.first; y = 31.first; return 0; }
procedure never() { if 0 = 1 { y = onemore(); } return 0; }
procedure null() { y = a(); y = b(); y = 29.first; y = 30.first; y = 31.first; free 0; return 0; }
procedure freed() { y = thirty(); free 1; y = 31.first; return 0; }
"""
GIVEN = """
procedure a() { """ + "y = new(y, 0); " * 14 + """ return y; }
procedure thirty() { y = a(); y = a(); y = new(0, 0); y = new(0, 0); return 0; }
procedure onemore() { y = a(); y = a(); y = new(0, 0); y = new(0, 0); y = new(0, 0); return 0; }
procedure never() { if 0 = 1 { y = onemore(); } return 0; }
procedure freed() { y = thirty(); x = new(0, 0); free x; return 0; }
procedure ends() { y = thirty(); x = new(0, 0); free 0; return 0; }
"""


class Bounds(Contracts):
    def many(self, program, name, depth, expected):
        self.exact(len(contracts(program, name, depth, 0)), expected)

    def too_many(self, program, name, depth):
        self.fault(TooMany, {}, contracts, program, name, depth, 0)

    def test_150_contracts_and_151(self):
        program = parse(EDGE)
        check(program)
        self.many(program, "good", 1, 150)
        self.too_many(program, "bad", 1)
        self.many(program, "calls", 1, 2)
        self.many(program, "calls", 2, 2)
        self.many(program, "callsbad", 1, 1)
        self.too_many(program, "callsbad", 2)
        self.many(program, "again", 1, 1)
        self.many(program, "again", 2, 1)
        self.too_many(program, "again", 3)
        self.too_many(program, "again", 4)

    def test_30_needed_cells_and_31(self):
        program = parse(CELLS)
        check(program)
        self.many(program, "thirty", 2, 31)
        self.exact(len(contracts(program, "thirty", 2, 0)[0][2]), 30)
        self.too_many(program, "onemore", 2)
        self.many(program, "onemore", 1, 1)
        self.many(program, "never", 1, 1)
        self.many(program, "never", 2, 1)
        self.too_many(program, "never", 3)
        self.too_many(program, "null", 2)
        self.too_many(program, "freed", 3)
        # 30 needed cells, given back or not, and an end at the next one
        at_the_edge = parse(CELLS.replace("y = 31.first; free 0;", "free 0;"))
        found = contracts(at_the_edge, "null", 2, 0)
        self.exact((found[0][5], len(found[0][2])), ("null", 30))

    def test_30_given_cells_and_31(self):
        program = parse(GIVEN)
        check(program)
        self.exact([(len(found[7]), found[9]) for found in contracts(program, "thirty", 2, 0)], [(30, 30)])
        self.too_many(program, "onemore", 2)
        self.many(program, "never", 2, 1)
        self.too_many(program, "never", 3)
        self.exact([(len(found[7]), found[9]) for found in contracts(program, "freed", 3, 0)], [(30, 31)])
        self.exact([(len(found[7]), found[5]) for found in contracts(program, "ends", 3, 0)], [(0, "null")])


class Paths(Case):
    def paths(self, program, tables=(), turns=0, name="f"):
        return body_paths(program, procedure_of(program, name), tables, turns)

    def test_no_statement(self):
        self.exact(self.paths(one("", "x")), (("path", (X,), (), (), (), (), (("x", X),), 1, 0, None, ()),))

    def test_names_and_numbers(self):
        self.exact(self.paths(one("y = x; z = new(x, 4); x = 3;")), ((
            "path", (X,), (), (), (), ((new(0), X, num(4)),), (("x", num(3)), ("y", X), ("z", new(0))), 3, 1, None, ()),))

    def test_ends_keep_what_was_there(self):
        self.exact(self.paths(one("y = new(x, x); z = x.first;")), (
            ("path", (X,), ((X, V, W),), (), (), ((new(0), X, X), (X, V, W)),
             (("x", X), ("y", new(0)), ("z", V)), 6, 1, None, ()),
            ("path", (X,), (), (X,), ((X, ZERO),), ((new(0), X, X),), (("x", X), ("y", new(0))), 4, 1,
             "missing", (("f", 1),)),
            ("path", (ZERO,), (), (), (), ((new(0), ZERO, ZERO),), (("x", ZERO), ("y", new(0))), 3, 1,
             "null", (("f", 1),))))

    def test_the_result_does_not_count(self):
        self.exact(self.paths(one("y = x;", "x")), self.paths(one("y = x;", "y")))

    def test_tables_that_are_handed_in(self):
        program = parse("procedure g(a) { return a; } procedure f(x) { y = g(x); z = g(y); return z; }")
        made = ("contract", (X,), (), (), (), "return", new(0), ((new(0), X, X),), (), 1)
        self.exact(self.paths(program, (("g", (made,)),)), ((
            "path", (X,), (), (), (), ((new(0), X, X), (new(1), new(0), new(0))),
            (("x", X), ("y", new(0)), ("z", new(1))), 3, 2, None, ()),))
        self.exact(self.paths(program, (("g", (deep_contract(1),)),)), ((
            "path", (X,), (), (), (), (), (("x", X),), 2, 0, "deep", (("f", 0),)),))
        self.exact(self.paths(program, (("g", ()),)), ())
        seven = ("contract", (num(7),), (), (), (), "return", num(8), (), (), 0)
        eight = ("contract", (num(8),), (), (), (), "null", None, (), (("g", 5), ("h", 6)), 0)
        self.exact(self.paths(program, (("h", ()), ("g", (eight, seven)))), (
            ("path", (num(8),), (), (), (), (), (("x", num(8)),), 1, 0, "null", (("f", 0), ("g", 5), ("h", 6))),
            ("path", (num(7),), (), (), (), (), (("x", num(7)), ("y", num(8))), 1, 0, "null",
             (("f", 1), ("g", 5), ("h", 6)))))

    def test_more_than_the_bounds(self):
        program = parse(EDGE)
        self.exact(len(self.paths(program, (), 0, "bad")), 151)

    def test_turns(self):
        program = one("while x != 0 { x = y; }", "x", "x, y")
        self.exact([len(self.paths(program, (), turns)) for turns in range(4)], [2, 3, 3, 3])


class Drawn(Case):
    def test_against_the_words_of_the_document(self):
        sizes = set()
        for seed in range(500):
            drawer = Drawer(seed)
            program = drawer.program()
            check(program)
            name, depth, turns = program[-1][1], drawer.random.randint(1, 3), drawer.random.randint(0, 2)
            try:
                found = contracts(program, name, depth, turns)
            except TooMany:
                sizes.add("too many")
                continue
            if len(found) <= 40:
                sizes.add(len(found))
                self.assertEqual(found, slowly.Finder(program, turns).contracts(name, depth), seed)
        self.assertGreater(len(sizes), 15)


def calls(name, many):
    return f"procedure {name}(a, b, c, d) {{ x = f(a, b, c, d); while 0 != 1 {{ while 0 != 1 {{ " \
        + "x = f(a, b, c, d); " * many + "} } return 0; } "


LONG = {
    "a comparison of everything, again and again": (
        "procedure f(a, b, c, d) { " + "".join(f"if {name} = {number} {{ }} " for name in "abcd"
                                               for number in ((1, 2, 3) if name in "ab" else (1, 2)))
        + "return 0; } " + calls("g", 11), "g"),
    "cells that are read again and again": (
        "procedure f(a, b, c, d) { x = a.first; " + "".join(f"if x = {number} {{ }} " for number in (1, 2, 3))
        + "x = a.second; if x = 1 { } if x = 2 { } if c = 1 { } if d = 1 { } return 0; } " + calls("g", 11), "g"),
    "cells that may be any of many": (
        "procedure f(a, b, c, x) { a = a.first; a = a.first; b = b.first; b = b.first; c = c.first; c = c.first; "
        "y = x.first; if y = 5 { } return 0; } procedure g(a, b, c, x) { x.first = 6; z = x.second; "
        "while z != 0 { z.first = 6; z = z.second; } y = f(a, b, c, x); return y; }", "g"),
    "hundreds of new cells": (
        "procedure f() { " + "x = new(x, x); " * 14 + "return x; } procedure g() { x = f(); x = f(); return x; } "
        "procedure h(y) { a = 1; b = 1; c = 1; while a != 0 { a = b; b = c; c = 0; d = 1; e = 1; "
        "while d != 0 { d = e; e = 0; x = g(); } } y = y.first; return 0; }", "h"),
    "a tree": (
        "procedure f(a, b) { if a = 0 { } else { c = a.first; d = a.second; x = f(c, b); y = f(d, b); } return x; }",
        "f"),
}


class Times(Case):
    def test_no_call_takes_long(self):
        for note, (text, name) in LONG.items():
            program = parse(text)
            check(program)
            begun = time.process_time()
            for depth in (2, 4):
                try:
                    contracts(program, name, depth, 3)
                except TooMany:
                    pass
            self.assertLess(time.process_time() - begun, 60, note)


if __name__ == "__main__":
    unittest.main()

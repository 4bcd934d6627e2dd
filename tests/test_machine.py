import itertools
import unittest

from heappacts.machine import Run, places_of, run
from heappacts.parsing import parse
from helpers import Case
from reference import Whole


def one(body, result="0", parameters="x, y"):
    return parse("procedure f(" + parameters + ") { " + body + " return " + result + "; }")


def finished(program, name, actual, heap=(), depth=1, turns=0):
    made = Run(program, name, actual, heap, depth=depth, turns=turns)
    made.finish()
    return made


CALLS = parse("""
procedure inner(a) { b = a.first; return b; }
procedure middle(a) { b = 1; b = inner(a); return b; }
procedure outer(x) { y = middle(x); z = 1; return y; }
""")

CHAIN = parse("procedure last(x) { if x = 0 { } else { y = x.second; if y = 0 { } else { x = last(y); } } return x; }")

LOOP = parse("procedure f(x) { while x != 0 { x = x.second; } return x; }")


class Steps(Case):
    def many(self, program, actual, heap=(), depth=1, turns=0, name="f"):
        made = Run(program, name, actual, heap, depth=depth, turns=turns)
        number = 0
        while made.ended is None:
            self.exact(made.steps, number)
            self.exact(made.step(), True)
            number += 1
        self.exact(made.steps, number)
        whole = Run(program, name, actual, heap, depth=depth, turns=turns)
        self.exact(whole.finish(), made.ended)
        self.exact((whole.steps, whole.questions, whole.look()), (made.steps, made.questions, made.look()))
        return number

    def test_no_statement(self):
        self.exact(self.many(one(""), (1, 2)), 1)

    def test_each_simple_statement_is_one(self):
        for body in ("z = x;", "z = x.first;", "x.second = y;", "z = new(x, y);", "free x;"):
            self.exact(self.many(one(body), (1, 2), ((1, 5, 6),)), 2)
            self.exact(self.many(one(body + " z = 1;"), (1, 2), ((1, 5, 6),)), 3)

    def test_an_end_is_a_step(self):
        self.exact(self.many(one("z = 1; free x; z = 1;"), (0, 2)), 2)
        self.exact(self.many(one("free x; z = x.first; z = 1;"), (1, 2), ((1, 0, 0),)), 2)
        self.exact(self.many(one("z = 3; z = f(x, x); z = 1;"), (1, 2)), 2)

    def test_if(self):
        program = one("if x = y { z = 1; z = 2; z = 3; } else { z = 4; }")
        self.exact(self.many(program, (1, 1)), 5)
        self.exact(self.many(program, (1, 2)), 3)
        self.exact(self.many(one("if x = y { z = 1; }"), (1, 2)), 2)

    def test_loop(self):
        self.exact(self.many(LOOP, (0,)), 3)
        self.exact(self.many(LOOP, (1,), ((1, 0, 0),), 1, 1), 5)
        self.exact(self.many(LOOP, (1,), ((1, 0, 2), (2, 0, 0)), 1, 3), 7)
        self.exact(self.many(LOOP, (1,)), 2)
        self.exact(self.many(LOOP, (1,), ((1, 0, 2), (2, 0, 0)), 1, 1), 4)
        self.exact(self.many(one("while x != y { }"), (1, 2), (), 1, 3), 5)

    def test_call(self):
        program = parse("procedure g() { return 1; } procedure f(x) { x = g(); return x; }")
        self.exact(self.many(program, (1,), (), 2), 3)
        self.exact(self.many(CALLS, (5,), ((5, 6, 7),), 3, 0, "outer"), 8)

    def test_the_last_step(self):
        made = Run(one("z = 1;", "z"), "f", (1, 2), ((3, 4, 5),), depth=1, turns=0)
        self.exact((made.steps, made.ended, made.questions), (0, None, ()))
        self.exact(made.step(), True)
        self.exact((made.steps, made.ended), (1, None))
        self.exact(made.step(), True)
        self.exact((made.steps, made.ended), (2, ("return", 1, ((3, 4, 5),), ())))

    def test_behind_the_end(self):
        for body, actual in (("z = 1;", (1, 2)), ("free x;", (0, 2)), ("free x;", (1, 2)), ("z = f(x, x);", (1, 2))):
            made = finished(one(body), "f", actual)
            before = (made.steps, made.ended, made.questions, made.look())
            for _ in range(3):
                self.exact(made.step(), False)
                self.exact(made.finish(), before[1])
                self.exact((made.steps, made.ended, made.questions, made.look()), before)

    def test_finish_from_the_midst(self):
        for before in range(9):
            made = Run(LOOP, "f", (1,), ((1, 0, 2), (2, 0, 0)), depth=1, turns=3)
            for _ in range(before):
                made.step()
            self.exact(made.finish(), ("return", 0, ((1, 0, 2), (2, 0, 0)), ()))
            self.exact(made.steps, 7)
            self.exact(len(made.questions), 7)

    def test_limits_are_passed_by_name(self):
        with self.assertRaises(TypeError):
            Run(LOOP, "f", (1,), (), 1, 0)
        self.exact(Run(LOOP, "f", (0,), (), turns=0, depth=1).finish(), ("return", 0, (), ()))

    def test_two_runs_by_turns(self):
        program = parse("procedure g(x) { y = new(x, 0); while x != 0 { x = x.first; y.second = x; } return y; } "
                        "procedure f(x) { y = g(x); free y; return y; }")
        heap = ((1, 2, 0), (2, 0, 0))
        starts = (("f", (1,), 2, 2), ("g", (2,), 1, 3), ("f", (0,), 1, 0))
        alone = [finished(program, name, actual, heap, depth, turns) for name, actual, depth, turns in starts]
        beside = [Run(program, name, actual, heap, depth=depth, turns=turns) for name, actual, depth, turns in starts]
        while any([made.step() for made in beside]):
            pass
        for made, other in zip(beside, alone):
            self.exact((made.ended, made.steps, made.questions, made.look()),
                       (other.ended, other.steps, other.questions, other.look()))


class Looks(Case):
    def test_call(self):
        program = parse("procedure inner(a) { b = a.first; return b; } "
                        "procedure outer(x) { y = inner(x); z = 1; return y; }")
        heap = ((5, 6, 7),)
        load = ("load", 0, "b", "a", 0)
        call, put = ("call", 0, "y", "inner", ("x",)), ("set", 1, "z", 1)
        made = Run(program, "outer", (5,), heap, depth=2, turns=0)
        expected = [
            (0, heap, (("outer", (("x", 5),), (("do", call), ("do", put)), 2),), 100),
            (1, heap, (("outer", (("x", 5),), (("do", put),), 2), ("inner", (("a", 5),), (("do", load),), 1)), 100),
            (2, heap, (("outer", (("x", 5),), (("do", put),), 2), ("inner", (("a", 5), ("b", 6)), (), 1)), 100),
            (3, heap, (("outer", (("x", 5), ("y", 6)), (("do", put),), 2),), 100),
            (4, heap, (("outer", (("x", 5), ("y", 6), ("z", 1)), (), 2),), 100),
            (5, heap, (("outer", (("x", 5), ("y", 6), ("z", 1)), (), 2),), 100),
        ]
        for look in expected:
            self.exact(made.look(), look)
            self.exact(made.look(), look)
            made.step()
        self.exact(made.look(), expected[-1])

    def test_loop(self):
        heap = ((3, 1, 0),)
        load = ("load", 1, "x", "x", 1)
        loop = ("while", 0, "x", 0, (load,))
        made = Run(LOOP, "f", (3,), heap, depth=4, turns=2)
        for number, word, work in (
                (0, 3, (("do", loop),)), (1, 3, (("turn", loop, 2),)), (2, 3, (("do", load), ("turn", loop, 1))),
                (3, 0, (("turn", loop, 1),)), (4, 0, ()), (5, 0, ())):
            self.exact(made.look(), (number, heap, (("f", (("x", word),), work, 4),), 100))
            made.step()

    def test_branches(self):
        program = one("if x = y { z = 1; z = 2; } else { x = 3; } y = 4;")
        yes, no = (("set", 1, "z", 1), ("set", 2, "z", 2)), (("set", 3, "x", 3),)
        last = ("set", 4, "y", 4)
        for actual, branch in (((1, 1), yes), ((1, 2), no)):
            made = Run(program, "f", actual, (), depth=1, turns=0)
            names = (("x", actual[0]), ("y", actual[1]))
            branching = ("if", 0, "x", "y", yes, no)
            self.exact(made.look()[2], (("f", names, (("do", branching), ("do", last)), 1),))
            made.step()
            work = tuple(("do", statement) for statement in branch) + (("do", last),)
            self.exact(made.look()[2], (("f", names, work, 1),))

    def test_order_of_names(self):
        made = finished(one("b = 1; y = 2; a = b; b = 3; x = 4; a = 5; q = r;"), "f", (8, 9))
        self.exact(made.look()[2][0][1], (("x", 4), ("y", 2), ("b", 3), ("a", 5), ("q", 0)))

    def test_variable_of_a_call_is_set_at_its_return(self):
        program = parse("procedure g() { return 7; } procedure f(x) { y = g(); z = 1; y = g(); x = g(); return x; }")
        made = Run(program, "f", (3,), (), depth=2, turns=0)
        made.step()
        self.exact(made.look()[2][0][1], (("x", 3),))
        made.step()
        self.exact(made.look()[2][0][1], (("x", 3), ("y", 7)))
        made.finish()
        self.exact(made.look()[2][0][1], (("x", 7), ("y", 7), ("z", 1)))

    def test_heap_and_next_address(self):
        made = Run(one("x = new(y, 5); z = new(x, x); y.first = z; free y; free x; x = new(1, 2);"),
                   "f", (0, 200), ((200, 300, 0),), depth=1, turns=0)
        for heap, following in (
                (((200, 300, 0),), 301),
                (((200, 300, 0), (301, 200, 5)), 302),
                (((200, 300, 0), (301, 200, 5), (302, 301, 301)), 303),
                (((200, 302, 0), (301, 200, 5), (302, 301, 301)), 303),
                (((301, 200, 5), (302, 301, 301)), 303),
                (((302, 301, 301),), 303),
                (((302, 301, 301), (303, 1, 2)), 304)):
            self.exact((made.look()[1], made.look()[3]), (heap, following))
            made.step()

    def test_at_an_end_that_is_no_return(self):
        made = finished(one("z = 1; free x; z = 2;"), "f", (5, 6), ((6, 1, 1),))
        self.exact(made.look(), (2, ((6, 1, 1),), (
            ("f", (("x", 5), ("y", 6), ("z", 1)), (("do", ("set", 2, "z", 2)),), 1),), 100))
        made = finished(one("z = f(x, y); z = 2;"), "f", (5, 6))
        self.exact(made.look(), (1, (), (("f", (("x", 5), ("y", 6)), (("do", ("set", 1, "z", 2)),), 1),), 100))
        made = finished(LOOP, "f", (5,))
        self.exact(made.look(), (2, (), (("f", (("x", 5),), (), 1),), 100))
        made = finished(CALLS, "middle", (5,), (), 2)
        self.exact(made.look(), (3, (), (
            ("middle", (("a", 5), ("b", 1)), (), 2), ("inner", (("a", 5),), (), 1)), 100))

    def test_what_is_handed_in_is_not_changed(self):
        program, heap, actual = one("x.first = y; free y; x = new(1, 2);"), ((1, 2, 3), (2, 3, 4)), (1, 2)
        finished(program, "f", actual, heap)
        self.exact((heap, actual), (((1, 2, 3), (2, 3, 4)), (1, 2)))
        self.exact(program, one("x.first = y; free y; x = new(1, 2);"))


class Statements(Case):
    def returns(self, body, actual, heap, result, after, given="z"):
        self.exact(run(one(body, given), "f", actual, heap, 1, 0), ("return", result, after, ()))

    def test_set(self):
        self.returns("z = x;", (5, 6), (), 5, ())
        self.returns("z = 42;", (5, 6), (), 42, ())
        self.returns("x = y; y = x; z = y;", (5, 6), (), 6, ())

    def test_result(self):
        self.returns("", (5, 6), (), 6, (), "y")
        self.returns("", (5, 6), (), 99, (), "99")
        self.returns("", (5, 6), (), 0, (), "never")

    def test_load(self):
        heap = ((5, 6, 7), (8, 9, 10))
        self.returns("z = x.first;", (5, 8), heap, 6, heap)
        self.returns("z = x.second;", (5, 8), heap, 7, heap)
        self.returns("z = y.second;", (5, 8), heap, 10, heap)
        self.returns("z = 8.first;", (0, 0), heap, 9, heap)
        self.returns("x = x.first; x = x.second; z = x;", (5, 0), ((5, 6, 7), (6, 1, 3)), 3, ((5, 6, 7), (6, 1, 3)))

    def test_store(self):
        heap = ((5, 6, 7), (8, 9, 10))
        self.returns("x.first = y;", (5, 8), heap, 0, ((5, 8, 7), (8, 9, 10)))
        self.returns("x.second = y;", (5, 8), heap, 0, ((5, 6, 8), (8, 9, 10)))
        self.returns("y.second = 3;", (5, 8), heap, 0, ((5, 6, 7), (8, 9, 3)))
        self.returns("x.first = x; x.second = x; z = x.second;", (5, 8), heap, 5, ((5, 5, 5), (8, 9, 10)))
        self.returns("8.first = 1; z = 8.first;", (5, 8), heap, 1, ((5, 6, 7), (8, 1, 10)))
        self.returns("x.first = 0;", (5, 8), heap, 0, ((5, 0, 7), (8, 9, 10)))

    def test_new(self):
        self.returns("z = new(x, y);", (5, 6), (), 100, ((100, 5, 6),))
        self.returns("z = new(1, x); y = new(z, y);", (5, 6), ((3, 1, 1),), 100, ((3, 1, 1), (100, 1, 5), (101, 100, 6)))
        self.returns("x = new(x, x); z = x.first;", (5, 6), (), 5, ((100, 5, 5),))

    def test_free(self):
        self.returns("free x;", (5, 8), ((5, 6, 7), (8, 9, 10)), 0, ((8, 9, 10),))
        self.returns("free y;", (5, 8), ((5, 6, 7), (8, 9, 10)), 0, ((5, 6, 7),))
        self.returns("z = x.first; free x; free z;", (5, 8), ((5, 6, 7), (6, 5, 5)), 6, ())

    def test_if(self):
        body = "if x = y { z = 1; } else { z = 2; }"
        self.returns(body, (5, 5), (), 1, ())
        self.returns(body, (5, 6), (), 2, ())
        self.returns("if x = 5 { z = 1; }", (5, 6), (), 1, ())
        self.returns("if 5 = y { z = 1; }", (5, 6), (), 0, ())
        self.returns("if 5 = 5 { if 1 = 2 { z = 1; } else { z = 2; } z = z; }", (0, 0), (), 2, ())

    def test_names_of_a_frame_are_its_own(self):
        program = parse("procedure g(a) { r = x; x = 9; a = 8; return r; } procedure f(x, a) { r = g(x); "
                        "if x = 5 { if a = 6 { s = 1; } } r = new(r, s); return x; }")
        self.exact(run(program, "f", (5, 6), (), 2, 0), ("return", 5, ((100, 0, 1),), ()))

    def test_calls(self):
        program = parse("procedure pair(a, b) { c = new(a, b); return c; } procedure f(x, y) { x = pair(y, x); "
                        "y = pair(x, 3); return y; }")
        self.exact(run(program, "f", (5, 6), (), 2, 0), ("return", 101, ((100, 6, 5), (101, 100, 3)), ()))
        four = parse("procedure g(a, b, c, d) { e = new(a, b); e = new(c, d); return e; } "
                     "procedure f() { x = g(1, 2, 3, 4); return x; }")
        self.exact(run(four, "f", (), (), 2, 0), ("return", 101, ((100, 1, 2), (101, 3, 4)), ()))


class NewAddresses(Case):
    def first(self, actual, heap):
        made = Run(one(""), "f", actual, heap, depth=1, turns=0)
        return made.look()[3]

    def test_greatest_of_all(self):
        self.exact(self.first((0, 0), ()), 100)
        self.exact(self.first((98, 99), ()), 100)
        self.exact(self.first((100, 0), ()), 101)
        self.exact(self.first((0, 100), ()), 101)
        self.exact(self.first((1, 2), ((98, 1, 1), (99, 1, 1))), 100)
        self.exact(self.first((1, 2), ((3, 4, 5), (100, 0, 0))), 101)
        self.exact(self.first((1, 2), ((3, 500, 5), (100, 0, 0))), 501)
        self.exact(self.first((1, 2), ((3, 4, 600), (100, 0, 0))), 601)
        self.exact(self.first((700, 2), ((3, 4, 600), (100, 0, 0))), 701)
        self.exact(self.first((9999, 2), ((9998, 9997, 600),)), 10000)

    def test_without_arguments(self):
        program = parse("procedure f() { x = new(1, 2); return x; }")
        self.exact(run(program, "f", (), (), 1, 0), ("return", 100, ((100, 1, 2),), ()))

    def test_never_used_again(self):
        body = "x = new(1, 2); free x; y = new(3, 4); free y; z = new(5, 6);"
        self.exact(run(one(body, "z"), "f", (0, 0), (), 1, 0), ("return", 102, ((102, 5, 6),), ()))
        # what the heap has lost during the run does not count for less
        body = "free x; x = 0; z = new(0, 0);"
        self.exact(run(one(body, "z"), "f", (200, 0), ((200, 300, 0),), 1, 0), ("return", 301, ((301, 0, 0),), ()))

    def test_in_calls(self):
        program = parse("procedure g() { x = new(1, 2); free x; return x; } "
                        "procedure f() { x = g(); y = new(x, 0); z = g(); return z; }")
        self.exact(run(program, "f", (), (), 2, 0), ("return", 102, ((101, 100, 0),), ()))


class Ends(Case):
    def ends(self, program, actual, heap, end, where, depth=1, turns=0, name="f"):
        self.exact(run(program, name, actual, heap, depth, turns), (end, None, None, where))

    def test_example_of_the_document(self):
        program = parse("procedure drop(x) { free x; y = x.first; return y; }")
        self.exact(run(program, "drop", (7,), ((7, 1, 2),), 1, 0), ("freed", None, None, (("drop", 1),)))

    def test_each_access(self):
        for access in ("z = x.first;", "z = x.second;", "x.first = y;", "x.second = 1;", "free x;"):
            program = one("y = 1; " + access)
            self.ends(program, (0, 0), ((5, 6, 7),), "null", (("f", 1),))
            self.ends(program, (4, 0), ((5, 6, 7),), "missing", (("f", 1),))
            # fields of cells are no addresses of cells
            self.ends(program, (6, 0), ((5, 6, 7),), "missing", (("f", 1),))
            self.exact(run(program, "f", (5, 0), ((5, 6, 7),), 1, 0)[0], "return")
            program = one("free x; y = 1; " + access)
            self.ends(program, (5, 0), ((5, 6, 7),), "freed", (("f", 2),))
            program = one("x = new(1, 2); free x; " + access)
            self.ends(program, (5, 0), ((5, 6, 7),), "freed", (("f", 2),))
            program = one("x = new(1, 2); " + access)
            self.exact(run(program, "f", (5, 0), (), 1, 0)[0], "return")

    def test_constants_as_addresses(self):
        self.ends(one("free 0;"), (1, 2), ((1, 0, 0),), "null", (("f", 0),))
        self.ends(one("z = 5.first;"), (1, 2), ((1, 0, 0),), "missing", (("f", 0),))
        self.ends(one("free x; 1.first = 2;"), (1, 2), ((1, 0, 0),), "freed", (("f", 1),))

    def test_a_name_that_was_never_set(self):
        self.ends(one("free q;"), (1, 2), (), "null", (("f", 0),))
        self.ends(one("q.first = x;"), (1, 2), (), "null", (("f", 0),))
        self.ends(one("if 1 = 2 { q = x; } free q;"), (1, 2), ((1, 0, 0),), "null", (("f", 2),))

    def test_a_freed_cell_of_another_frame(self):
        program = parse("procedure g(x) { free x; return x; } procedure f(x) { y = g(x); y = g(x); return y; }")
        self.ends(program, (5,), ((5, 0, 0),), "freed", (("f", 1), ("g", 0)), 2)
        program = parse("procedure g() { x = new(1, 1); free x; return x; } procedure f(x) { y = g(); free y; return y; }")
        self.ends(program, (5,), ((5, 0, 0),), "freed", (("f", 1),), 2)

    def test_within_calls(self):
        self.ends(CALLS, (0,), (), "null", (("outer", 0), ("middle", 1), ("inner", 0)), 3, 0, "outer")
        self.ends(CALLS, (5,), (), "missing", (("outer", 0), ("middle", 1), ("inner", 0)), 3, 0, "outer")
        self.ends(CALLS, (5,), (), "deep", (("outer", 0), ("middle", 1)), 2, 0, "outer")
        self.ends(CALLS, (5,), (), "deep", (("outer", 0),), 1, 0, "outer")
        self.ends(CALLS, (5,), (), "missing", (("middle", 1), ("inner", 0)), 2, 0, "middle")
        self.ends(CALLS, (5,), (), "missing", (("inner", 0),), 1, 0, "inner")

    def test_behind_calls(self):
        program = parse("procedure g() { x = 1; return x; } procedure f(x) { y = g(); y = g(); free x; return y; }")
        self.ends(program, (5,), (), "missing", (("f", 2),), 2)

    def test_within_branches_and_loops(self):
        program = one("if x = y { z = 1; } else { while x != 0 { if y = 0 { free y; } else { free x; } x = x.first; } }")
        self.ends(program, (5, 0), ((5, 0, 0),), "null", (("f", 4),), 1, 1)
        self.ends(program, (5, 6), (), "missing", (("f", 5),), 1, 1)
        self.ends(program, (5, 6), ((5, 0, 0),), "freed", (("f", 6),), 1, 1)
        self.ends(program, (5, 6), ((5, 0, 0),), "deep", (("f", 2),), 1, 0)
        program = parse("procedure g(x) { if x = 1 { free x; } return x; } procedure f(x) { while 0 != 1 { "
                        "if x = 1 { y = g(x); } else { x = g(1); } } return x; }")
        self.ends(program, (1,), ((1, 0, 0),), "freed", (("f", 2), ("g", 1)), 2, 3)
        self.ends(program, (2,), (), "missing", (("f", 3), ("g", 1)), 2, 3)
        self.ends(program, (1,), ((1, 0, 0),), "deep", (("f", 0),), 2, 1)
        self.ends(program, (1,), ((1, 0, 0),), "deep", (("f", 2),), 1, 1)

    def test_depth(self):
        heap = ((1, 0, 2), (2, 0, 3), (3, 0, 4), (4, 0, 0))
        for depth in range(1, 4):
            self.ends(CHAIN, (1,), heap, "deep", (("last", 3),) * depth, depth, 0, "last")
        for begin in range(1, 5):
            self.exact(run(CHAIN, "last", (begin,), heap, 5 - begin, 0), ("return", 4, heap, ()))
        self.exact(run(CHAIN, "last", (0,), heap, 1, 0), ("return", 0, heap, ()))

    def test_depth_is_that_of_the_frame(self):
        program = parse("procedure g() { return 1; } procedure f() { x = g(); x = g(); x = g(); x = g(); return x; }")
        self.exact(run(program, "f", (), (), 2, 0), ("return", 1, (), ()))

    def test_turns(self):
        heap = ((1, 0, 2), (2, 0, 3), (3, 0, 0))
        for needed, begin in enumerate((0, 3, 2, 1)):
            for turns in range(4):
                if turns < needed:
                    self.ends(LOOP, (begin,), heap, "deep", (("f", 0),), 1, turns)
                else:
                    self.exact(run(LOOP, "f", (begin,), heap, 1, turns), ("return", 0, heap, ()))

    def test_turns_count_anew_each_time_the_loop_is_reached(self):
        program = parse("procedure f() { a = new(0, 0); while a != 0 { b = new(1, 0); while b != 0 { b = b.second; } "
                        "a = a.second; } return a; }")
        self.exact(run(program, "f", (), (), 1, 1)[:2], ("return", 0))
        program = parse("procedure f(x, y) { while x != 0 { z = y; while z != 0 { z = z.first; } x = x.first; } return 7; }")
        heap = ((1, 2, 0), (2, 0, 0))
        self.exact(run(program, "f", (1, 1), heap, 1, 2), ("return", 7, heap, ()))
        self.ends(program, (2, 1), heap, "deep", (("f", 2),), 1, 1)
        self.ends(program, (1, 2), heap, "deep", (("f", 0),), 1, 1)
        program = parse("procedure g(x) { while x != 0 { x = x.first; } return x; } "
                        "procedure f(x) { y = g(x); y = g(x); return y; }")
        self.exact(run(program, "f", (1,), heap, 2, 2), ("return", 0, heap, ()))
        self.ends(program, (1,), heap, "deep", (("f", 0), ("g", 0)), 2, 1)


class Questions(Case):
    def asks(self, program, actual, heap, questions, depth=1, turns=0):
        made = Run(program, "f", actual, heap, depth=depth, turns=turns)
        known = ()
        while made.step():
            self.exact(made.questions[:len(known)], known)
            known = made.questions
        self.exact(known, questions)
        self.exact(finished(program, "f", actual, heap, depth, turns).questions, questions)

    def test_none(self):
        self.asks(one("z = x; z = 1; z = new(x, y);"), (1, 2), ((1, 2, 3),), ())

    def test_same(self):
        self.asks(one("if x = y { }"), (5, 5), (), (("same", 5, 5, True),))
        self.asks(one("if x = y { } else { if y = 3 { } }"), (5, 6), (), (("same", 5, 6, False), ("same", 6, 3, False)))
        self.asks(one("if 1 = 1 { if q = 0 { } }"), (5, 6), (), (("same", 1, 1, True), ("same", 0, 0, True)))

    def test_accesses(self):
        for access in ("z = x.first;", "z = x.second;", "x.first = y;", "x.second = 1;", "free x;"):
            self.asks(one(access), (0, 2), ((5, 1, 1),), (("null", 0, True),))
            self.asks(one(access), (4, 2), ((5, 1, 1),), (("null", 4, False), ("cell", 4, "missing")))
            self.asks(one(access), (5, 2), ((5, 1, 1),), (("null", 5, False), ("cell", 5, "there")))
            self.asks(one("free x; " + access), (5, 2), ((5, 1, 1),), (
                ("null", 5, False), ("cell", 5, "there"), ("null", 5, False), ("cell", 5, "freed")))

    def test_loop(self):
        heap = ((1, 0, 2), (2, 0, 0))
        turn = lambda word: (("same", word, 0, False), ("null", word, False), ("cell", word, "there"))
        self.asks(LOOP, (1,), heap, turn(1) + turn(2) + (("same", 0, 0, True),), 1, 2)
        self.asks(LOOP, (1,), heap, turn(1) + (("same", 2, 0, False),), 1, 1)
        self.asks(LOOP, (1,), heap, (("same", 1, 0, False),), 1, 0)
        self.asks(LOOP, (0,), heap, (("same", 0, 0, True),), 1, 0)

    def test_calls(self):
        program = parse("procedure g(x) { y = x.first; return y; } "
                        "procedure f(x) { y = g(x); if x = y { } y = g(y); return y; }")
        self.asks(program, (5,), ((5, 6, 0),), (
            ("null", 5, False), ("cell", 5, "there"), ("same", 5, 6, False), ("null", 6, False),
            ("cell", 6, "missing")), 2)
        self.asks(program, (5,), ((5, 6, 0),), (), 1)

    def test_new_cells(self):
        self.asks(one("x = new(y, y); z = x.first; free x; free x;"), (5, 6), (), (
            ("null", 100, False), ("cell", 100, "there"), ("null", 100, False), ("cell", 100, "there"),
            ("null", 100, False), ("cell", 100, "freed")))


class Places(Case):
    def test_each_once_and_rising(self):
        program = parse("procedure z() { a = 1; return a; } procedure m(x) { a = z(); if x = 0 { b = 1; } else { b = 2; } "
                        "return a; } procedure a(x) { while x != 0 { y = m(x); x = x.first; y = z(); } y = m(0); return y; }")
        m_yes, m_no = (("m", 0), ("m", 1), ("m", 2)), (("m", 0), ("m", 1), ("m", 3))
        self.exact(places_of(program, "z", (), (), 1, 0), (("z", 0),))
        self.exact(places_of(program, "m", (0,), (), 2, 0), (("z", 0),) + m_yes)
        self.exact(places_of(program, "m", (4,), (), 2, 0), (("z", 0),) + m_no)
        self.exact(places_of(program, "a", (0,), (), 3, 0), (("z", 0),) + m_yes + (("a", 0), ("a", 4)))
        self.exact(places_of(program, "a", (1,), ((1, 2, 0), (2, 0, 0)), 3, 2),
                   (("z", 0), ("m", 0), ("m", 1), ("m", 2), ("m", 3), ("a", 0), ("a", 1), ("a", 2), ("a", 3), ("a", 4)))

    def test_more_than_ten_places(self):
        program = one("x = 1; " * 12)
        self.exact(places_of(program, "f", (0, 0), (), 1, 0), tuple(("f", place) for place in range(12)))

    def test_the_statement_at_which_it_ends(self):
        program = one("x = y; free x; x = 1;")
        self.exact(places_of(program, "f", (0, 0), (), 1, 0), (("f", 0), ("f", 1)))
        self.exact(places_of(one("x = f(x, y); x = 1;"), "f", (0, 0), (), 1, 0), (("f", 0),))
        self.exact(places_of(one("while x != y { z = 1; } x = 1;"), "f", (0, 1), (), 1, 0), (("f", 0),))

    def test_no_statement(self):
        self.exact(places_of(one(""), "f", (0, 0), (), 1, 0), ())

    def test_branches_that_are_not_taken(self):
        program = one("if x = y { z = 1; z = 2; } else { z = 3; } z = 4;")
        self.exact(places_of(program, "f", (1, 1), (), 1, 0), (("f", 0), ("f", 1), ("f", 2), ("f", 4)))
        self.exact(places_of(program, "f", (1, 2), (), 1, 0), (("f", 0), ("f", 3), ("f", 4)))


PROGRAMS = (
    "procedure f(x, y) { z = x.first; if z = y { z.second = x; } else { y = z.second; free z; } x.first = y; return z; }",
    "procedure f(x, y) { while x != y { z = x.first; free x; x = z; } w = new(x, z); return w; }",
    "procedure f(x, y) { while x != 0 { while y != x { y = y.second; } x = x.first; y.first = q; } return y; }",
    "procedure g(x) { y = x.second; if y = 0 { y = new(x, 0); x.second = y; } else { y = g(y); } return y; } "
    "procedure f(x, y) { z = g(x); z = g(y); z.first = z; free x; return z; }",
    "procedure h(a) { free a; return a; } procedure g(a, b) { if a = b { c = h(a); } else { c = 3.first; } return c; } "
    "procedure f(x, y) { x = g(x, y); while x != 2 { x = g(y, x); y = 2; } return x; }",
)


class AgainstTheReference(Case):
    def test_many_runs(self):
        words = (0, 1, 2, 3)
        heaps = [()]
        heaps += [((a, b, c),) for a in words[1:] for b in words for c in words]
        heaps += [((a, b, c), (d, e, f)) for a, d in ((1, 2), (1, 3), (2, 3))
                  for b, c, e, f in itertools.product(words, repeat=4)]
        heaps += [((1, a, b), (2, c, d), (3, d, a)) for a, b, c, d in itertools.product(words, repeat=4)]
        ends = set()
        for text in PROGRAMS:
            program = parse(text)
            for number, heap in enumerate(heaps):
                actual = (number % 4, number // 4 % 3)
                for depth, turns in ((1, 0), (2, 1), (4, 3)):
                    whole = Whole(program, "f", actual, heap, depth, turns)
                    made = finished(program, "f", actual, heap, depth, turns)
                    note = (text, actual, heap, depth, turns)
                    self.assertEqual(made.ended, whole.outcome, note)
                    self.assertEqual(made.steps, whole.steps, note)
                    self.assertEqual(made.questions, tuple(whole.questions), note)
                    found = places_of(program, "f", actual, heap, depth, turns)
                    order = [procedure[1] for procedure in program]
                    rising = sorted(whole.places, key=lambda place: (order.index(place[0]), place[1]))
                    self.assertEqual(found, tuple(rising), note)
                    ends.add(made.ended[0])
        self.assertEqual(ends, {"return", "missing", "null", "freed", "deep"})


if __name__ == "__main__":
    unittest.main()

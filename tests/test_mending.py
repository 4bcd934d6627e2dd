import unittest

from drawn import Drawer
from heappacts.checking import count, procedure_of
from heappacts.errors import TooMany
from heappacts.mending import beside_it, mended, mends, trimmed, with_procedure
from heappacts.parsing import parse
from heappacts.printing import print_program
from heappacts.sameness import compare
from helpers import Case
from samples import PROGRAM, SAMPLES

KINDS = ("leave", "swap", "yes", "no")


def one(body, result="0", parameters="x", name="f"):
    return parse(f"procedure {name}({parameters}) {{ {body} return {result}; }}")


def many(limit):
    """Statements that make a procedure with more contracts than there may be."""
    return "".join(f"if x = {number} {{ }} if y = {number} {{ }} " for number in range(1, limit))


class Mended(Case):
    def gives(self, body, mend, expected):
        (procedure,) = one(body)
        found = mended(procedure, mend)
        if expected is None:
            self.exact(found, None)
        else:
            self.exact(found, one(expected)[0])
        self.exact(procedure, one(body)[0])

    def test_leave(self):
        body = "a = 1; b = 2; c = 3;"
        for place, expected in ((0, "b = 2; c = 3;"), (1, "a = 1; c = 3;"), (2, "a = 1; b = 2;")):
            self.gives(body, ("leave", place), expected)
        self.gives("a = 1;", ("leave", 0), "")

    def test_leave_with_what_is_within(self):
        body = "a = 1; if x = 1 { b = 2; while x != 2 { c = 3; } } else { d = 4; } e = 5;"
        self.gives(body, ("leave", 1), "a = 1; e = 5;")
        self.gives(body, ("leave", 2), "a = 1; if x = 1 { while x != 2 { c = 3; } } else { d = 4; } e = 5;")
        self.gives(body, ("leave", 3), "a = 1; if x = 1 { b = 2; } else { d = 4; } e = 5;")
        self.gives(body, ("leave", 4), "a = 1; if x = 1 { b = 2; while x != 2 { } } else { d = 4; } e = 5;")
        self.gives(body, ("leave", 5), "a = 1; if x = 1 { b = 2; while x != 2 { c = 3; } } e = 5;")
        self.gives(body, ("leave", 6), "a = 1; if x = 1 { b = 2; while x != 2 { c = 3; } } else { d = 4; }")

    def test_swap(self):
        body = "a = 1; if x = 1 { b = 2; c = 3; d = 4; } else { e = 5; f = 6; } g = 7;"
        self.gives(body, ("swap", 0), "if x = 1 { b = 2; c = 3; d = 4; } else { e = 5; f = 6; } a = 1; g = 7;")
        self.gives(body, ("swap", 1), "a = 1; g = 7; if x = 1 { b = 2; c = 3; d = 4; } else { e = 5; f = 6; }")
        self.gives(body, ("swap", 2), "a = 1; if x = 1 { c = 3; b = 2; d = 4; } else { e = 5; f = 6; } g = 7;")
        self.gives(body, ("swap", 3), "a = 1; if x = 1 { b = 2; d = 4; c = 3; } else { e = 5; f = 6; } g = 7;")
        self.gives(body, ("swap", 5), "a = 1; if x = 1 { b = 2; c = 3; d = 4; } else { f = 6; e = 5; } g = 7;")
        # the last ones of a block
        for place in (4, 6, 7):
            self.gives(body, ("swap", place), None)

    def test_yes_and_no(self):
        body = "a = 1; if x = 1 { b = 2; c = 3; } else { d = 4; } e = 5;"
        self.gives(body, ("yes", 1), "a = 1; b = 2; c = 3; e = 5;")
        self.gives(body, ("no", 1), "a = 1; d = 4; e = 5;")
        self.gives("if x = 1 { a = 1; }", ("no", 0), "")
        self.gives("if x = 1 { } else { a = 1; }", ("yes", 0), "")
        for kind in ("yes", "no"):
            for place in (0, 2, 3, 4, 5):
                self.gives(body, (kind, place), None)

    def test_two_blocks_deep(self):
        body = "while x != 0 { if x = y { a = 1; b = 2; } else { c = 3; d = 4; } } e = 5;"
        self.gives(body, ("leave", 2), "while x != 0 { if x = y { b = 2; } else { c = 3; d = 4; } } e = 5;")
        self.gives(body, ("leave", 5), "while x != 0 { if x = y { a = 1; b = 2; } else { c = 3; } } e = 5;")
        self.gives(body, ("swap", 2), "while x != 0 { if x = y { b = 2; a = 1; } else { c = 3; d = 4; } } e = 5;")
        self.gives(body, ("swap", 4), "while x != 0 { if x = y { a = 1; b = 2; } else { d = 4; c = 3; } } e = 5;")
        self.gives(body, ("yes", 1), "while x != 0 { a = 1; b = 2; } e = 5;")
        self.gives(body, ("no", 1), "while x != 0 { c = 3; d = 4; } e = 5;")
        self.gives(body, ("swap", 0), "e = 5; while x != 0 { if x = y { a = 1; b = 2; } else { c = 3; d = 4; } }")
        self.gives(body, ("swap", 1), None)
        self.gives(body, ("swap", 3), None)
        self.gives("if x = 1 { if x = 2 { a = 1; } } else { b = 2; }", ("yes", 1),
                   "if x = 1 { a = 1; } else { b = 2; }")

    def test_a_loop_is_no_if(self):
        for kind in ("yes", "no"):
            self.gives("while x != 1 { a = 1; }", (kind, 0), None)

    def test_no_such_statement(self):
        for kind in KINDS:
            for body, places in (("", (0, 1)), ("a = 1;", (1, 2, 99)), ("if x = 1 { a = 1; } b = 2;", (3, 14))):
                for place in places:
                    self.gives(body, (kind, place), None)

    def test_every_kind_of_statement_has_its_place_anew(self):
        body = ("a = x; a = x.first; x.second = a; a = new(x, 1); if a = 1 { free a; a = 2; } else { x = a; } "
                "while a != x { a = f(x); } free x;")
        self.gives("b = 0; " + body, ("leave", 0), body)
        self.gives(body + " b = 0;", ("leave", 11), body)

    def test_head_and_result_stay(self):
        (procedure,) = one("a = y; b = 1;", "a", "x, y, z", "other")
        self.exact(mended(procedure, ("leave", 1)), one("a = y;", "a", "x, y, z", "other")[0])

    def test_places_of_drawn_procedures(self):
        for seed in range(200):
            drawer = Drawer(seed, 12)
            procedure = drawer.program()[-1]
            for place in range(count(procedure[3]) + 1):
                for kind in KINDS:
                    found = mended(procedure, (kind, place))
                    if found is not None:
                        self.exact(parse(print_program((found,))), (found,))


class Programs(Case):
    PROGRAM = one("a = 1;", name="f") + one("a = f(x);", name="g") + one("a = f(x); a = g(a);", name="h")

    def test_with_procedure(self):
        (other,) = one("a = 2;", name="g")
        self.exact(with_procedure(self.PROGRAM, other), self.PROGRAM[:1] + (other,) + self.PROGRAM[2:])
        self.exact(with_procedure(self.PROGRAM, self.PROGRAM[2]), self.PROGRAM)
        (other,) = one("a = 2;", name="f")
        self.exact(with_procedure(self.PROGRAM[:1], other), (other,))

    def test_beside_it(self):
        (other,) = one("a = g(x);", name="g")
        added = ("procedure", "zg") + other[2:]
        self.exact(beside_it(self.PROGRAM, other), self.PROGRAM[:2] + (added,) + self.PROGRAM[2:])
        (first,) = one("", name="f")
        self.exact([procedure[1] for procedure in beside_it(self.PROGRAM, first)], ["f", "zf", "g", "h"])
        (last,) = one("", name="h")
        self.exact([procedure[1] for procedure in beside_it(self.PROGRAM, last)], ["f", "g", "h", "zh"])

    def test_calls_stay_as_they_are(self):
        program = one("a = f(x);", name="f") + one("a = f(x);", name="g")
        (other,) = one("b = f(x); a = 1;", name="f")
        found = beside_it(program, other)
        self.exact(found[1], ("procedure", "zf", ("x",), (("call", 0, "b", "f", ("x",)), ("set", 1, "a", 1)), 0))
        self.exact((found[0], found[2]), program)

    def test_long_names(self):
        for name, expected in (("abcdefgh", "zabcdefg"), ("abcdefg", "zabcdefg"), ("zzzzzzzz", "zzzzzzzz"), ("z", "zz")):
            program = one("", name=name)
            self.exact([procedure[1] for procedure in beside_it(program, program[0])], [name, expected])


def slow_mends(program, name, depth, turns):
    procedure = procedure_of(program, name)
    found = []
    for place in range(count(procedure[3])):
        for kind in KINDS:
            changed = mended(procedure, (kind, place))
            other = "z" + name[:7]
            if changed is None or procedure_of(program, other) is not None:
                continue
            try:
                if compare(beside_it(program, changed), name, other, depth, turns) is None:
                    found.append((kind, place))
            except TooMany:
                pass
    return tuple(found)


def slow_trimmed(program, name, depth, turns):
    while True:
        shorter = [mend for mend in slow_mends(program, name, depth, turns) if mend[0] != "swap"]
        if not shorter:
            return procedure_of(program, name)
        program = with_procedure(program, mended(procedure_of(program, name), shorter[0]))


class Mends(Case):
    def found(self, program, expected, name="f", depth=1, turns=0):
        self.exact(mends(program, name, depth, turns), expected)
        self.exact(slow_mends(program, name, depth, turns), expected)

    def test_nothing_that_counts(self):
        self.found(one(""), ())
        self.found(one("a = 1;"), (("leave", 0),))
        self.found(one("a = 1; b = 2;"), (("leave", 0), ("swap", 0), ("leave", 1)))

    def test_each_kind(self):
        self.found(one("y = x.first;", "y"), ())
        self.found(one("y = x.first; z = x.second;", "y"), (("swap", 0), ("leave", 1)))
        self.found(one("x.first = 1; x.second = 2;"), (("swap", 0),))
        self.found(one("x.first = 1; x.first = 2;"), (("leave", 0),))
        self.found(one("if x = 1 { y = 1; } else { y = 2; }", "y"), ())
        self.found(one("if x = 1 { y = 1; } else { y = 1; }", "y"), (("yes", 0), ("no", 0)))
        self.found(one("if 1 = 1 { y = 1; } else { y = 2; }", "y"), (("yes", 0), ("leave", 2)))
        self.found(one("if 1 = 2 { y = 1; } else { y = 2; }", "y"), (("no", 0), ("leave", 1)))
        self.found(one("if x = 1 { y = x; } else { y = 1; }", "y"), (("no", 0),))
        self.found(one("while x != 0 { y = x.first; x = 0; }", "y"), (), turns=1)

    def test_the_order(self):
        self.found(one("if x = 1 { y = 3; } z = 1; if x = 2 { } else { }"), (
            ("leave", 0), ("swap", 0), ("yes", 0), ("no", 0), ("leave", 1), ("leave", 2), ("swap", 2),
            ("leave", 3), ("yes", 3), ("no", 3)))

    def test_a_name_that_is_borne(self):
        program = one("a = 1;")
        self.found(program, (("leave", 0),))
        for other in ("zf", "zg"):
            expected = () if other == "zf" else (("leave", 0),)
            self.found(program + one("", name=other), expected)
            self.found(one("", name=other) + program, expected)
        # eight characters
        self.found(one("a = 1;", name="abcdefgh") + one("", name="zabcdefg"), (), "abcdefgh")
        self.found(one("a = 1;", name="abcdefgh") + one("", name="zabcdef"), (("leave", 0),), "abcdefgh")
        self.found(one("a = 1;", name="zzzzzzzz"), (), "zzzzzzzz")
        self.found(one("a = 1;", name="zzzzzzz"), (("leave", 0),), "zzzzzzz")

    def test_too_many(self):
        self.found(one(many(14), "0", "x, y"), ())
        # one more compared word than there may be: without it there are not too many
        body = many(12)
        self.exact(len(mends(one(body, "0", "x, y"), "f", 1, 0)), 22 * 4 - 1)
        program = one(many(14), "0", "x, y", "g") + one("if x = 0 { a = g(x, y); } else { a = 1; }", "0", "x, y")
        self.found(program, (), depth=2)
        self.found(program, (("leave", 2),), depth=1)

    def test_a_mend_with_too_many(self):
        rows = many(13)
        program = one("if 0 = 1 { " + rows + " }", "0", "x, y")
        self.exact(len(mends(one(rows, "0", "x, y"), "f", 1, 0)), 0)
        self.exact(mends(program, "f", 1, 0)[:2], (("leave", 0), ("no", 0)))
        self.exact(("yes", 0) in mends(program, "f", 1, 0), False)

    def test_calls(self):
        program = parse("procedure g(x) { y = x.first; return y; } "
                        "procedure f(x) { y = g(x); y = x.first; return y; }")
        self.found(program, (("leave", 0), ("swap", 0), ("leave", 1)), depth=2)
        self.found(program, (("leave", 1),), depth=1)

    def test_a_procedure_that_calls_itself(self):
        program = one("if x = 0 { y = 1; } else { x = x.first; y = f(x); y = 2; }", "y")
        for depth in (1, 2, 3):
            self.found(program, slow_mends(program, "f", depth, 0), depth=depth)

    def test_samples(self):
        for name, depth, turns in SAMPLES:
            self.found(PROGRAM, slow_mends(PROGRAM, name, depth, turns), name, depth, turns)

    def test_drawn(self):
        sizes = set()
        for seed in range(200):
            drawer = Drawer(seed, 9)
            program = drawer.program()
            depth, turns = drawer.random.randint(1, 3), drawer.random.randint(0, 2)
            expected = slow_mends(program, program[-1][1], depth, turns)
            self.exact(mends(program, program[-1][1], depth, turns), expected, seed)
            sizes.add(len(expected))
        self.assertGreater(len(sizes), 8)


class Trimmed(Case):
    def found(self, program, expected, name="f", depth=1, turns=0):
        self.exact(trimmed(program, name, depth, turns), expected)
        self.exact(slow_trimmed(program, name, depth, turns), expected)

    def test_nothing_to_leave_out(self):
        for body, result in (("", "0"), ("y = x.first;", "y"), ("x.first = 1; x.second = 2;", "0")):
            program = one(body, result)
            self.found(program, program[0])

    def test_one_after_another(self):
        self.found(one("a = 1; b = a; c = b; y = x.first; d = c;", "y"), one("y = x.first;", "y")[0])
        self.found(one("if x = 1 { y = 1; } else { y = 1; }", "y"), one("y = 1;", "y")[0])
        self.found(one("if x = 1 { if 1 = 2 { free x; } } y = x.first; if y = y { y = 3; z = 4; }", "y"),
                   one("y = x.first; y = 3;", "y")[0])
        self.found(one("x.first = 1; x.first = 2; x.first = 3;"), one("x.first = 3;")[0])

    def test_no_swaps(self):
        program = one("x.second = 1; x.first = 2;")
        self.exact(mends(program, "f", 1, 0), (("swap", 0),))
        self.found(program, program[0])

    def test_a_name_that_is_borne(self):
        program = one("a = 1;") + one("", name="zf")
        self.found(program, program[0])

    def test_too_many(self):
        program = one(many(14), "0", "x, y")
        self.found(program, program[0])

    def test_calls(self):
        program = parse("procedure g(x) { y = x.first; return y; } "
                        "procedure f(x) { y = g(x); y = x.first; return y; } "
                        "procedure h(x) { y = f(x); return y; }")
        self.found(program, one("y = x.first;", "y")[0], depth=2)
        self.found(program, one("y = g(x);", "0")[0][:4] + ("y",), depth=1)

    def test_drawn(self):
        shorter = 0
        for seed in range(120):
            drawer = Drawer(seed, 9)
            program = drawer.program()
            depth, turns = drawer.random.randint(1, 3), drawer.random.randint(0, 2)
            name = program[-1][1]
            found = trimmed(program, name, depth, turns)
            self.exact(found, slow_trimmed(program, name, depth, turns), seed)
            shorter += count(program[-1][3]) - count(found[3])
        self.assertGreater(shorter, 200)


if __name__ == "__main__":
    unittest.main()

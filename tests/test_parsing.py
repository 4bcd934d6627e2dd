import unittest

from heappacts.errors import TextFault
from heappacts.parsing import parse
from grammar import TERMINALS, beginning, behind, first_misfit
from helpers import Case

WHOLE = """procedure f ( ) { return 0 ; }
procedure g ( x , y , z ) {
x = y ; x = 5 ; x = y . first ; x = 7 . second ;
y . first = z ; 3 . second = 4 ; x = new ( y , 1 ) ; free x ; free 9 ;
x = f ( ) ; x = g ( y , 2 , z ) ;
if x = y { } if x = 1 { z = 2 ; } else { } if 1 = x { } else { free x ; }
while x != 0 { if x = 3 { while 4 != y { x = z ; } } else { y = x ; } z = y ; }
return z ;
}"""


def terminal_of(text):
    if text in TERMINALS:
        return text
    return "NUMBER" if text.isdigit() else "NAME"


def text_of(terminal):
    return {"NAME": "w", "NUMBER": "6"}.get(terminal, terminal)


def laid_out(texts):
    """A text with the tokens, seven a line, and their places, that of the end the last one."""
    lines, places = [""], []
    for number, text in enumerate(texts):
        if number and number % 7 == 0:
            lines.append("")
        lines[-1] += " "
        places.append((len(lines), len(lines[-1]) + 1))
        lines[-1] += text
    places.append((len(lines), len(lines[-1]) + 1))
    return "\n".join(lines), places


def body_of(text):
    (procedure,) = parse("procedure f(x, y) { " + text + " return x; }")
    return procedure[3]


class Programs(Case):
    def test_no_procedure(self):
        for text in ("", "  \n", "# nothing\n#"):
            self.exact(parse(text), ())

    def test_parameters(self):
        self.exact(parse("procedure f() { return 0; }"), (("procedure", "f", (), (), 0),))
        for many in range(1, 6):
            names = tuple("abcde"[:many])
            text = "procedure f(" + ", ".join(names) + ") { return a; }"
            self.exact(parse(text), (("procedure", "f", names, (), "a"),))

    def test_result(self):
        self.exact(parse("procedure f(x) { return x; }")[0][4], "x")
        self.exact(parse("procedure f(x) { return 99; }")[0][4], 99)

    def test_several_procedures(self):
        text = "procedure b() { return 1; } procedure a(x) { x = b(); return x; }\nprocedure c() { return 2; }"
        self.exact(parse(text), (
            ("procedure", "b", (), (), 1),
            ("procedure", "a", ("x",), (("call", 0, "x", "b", ()),), "x"),
            ("procedure", "c", (), (), 2)))

    def test_the_example(self):
        self.exact(parse("procedure drop(x) { free x; y = x.first; return y; }"), (
            ("procedure", "drop", ("x",), (("free", 0, "x"), ("load", 1, "y", "x", 0)), "y"),))

    def test_no_spaces_and_remarks(self):
        text = "procedure f(x){#one\nif x=0{free x;}#two\nelse{x=f(x);}return x;}#three"
        self.exact(parse(text), (
            ("procedure", "f", ("x",), (
                ("if", 0, "x", 0, (("free", 1, "x"),), (("call", 2, "x", "f", ("x",)),)),), "x"),))

    def test_faults_of_programs_are_not_told(self):
        names = ["p" + str(number) for number in range(9)] + ["p1"]
        text = "".join(["procedure " + name + "(a, a, a, a, a) { a = no(1); return 0; } " for name in names])
        self.assertEqual(tuple(procedure[1] for procedure in parse(text)), tuple(names))
        deep = "if a = 0 { " * 20 + "} " * 20
        self.assertEqual(len(parse("procedure f() { " + deep + " return 0; }")), 1)


class Statements(Case):
    def test_set(self):
        self.exact(body_of("x = y;"), (("set", 0, "x", "y"),))
        self.exact(body_of("x = 0;"), (("set", 0, "x", 0),))
        self.exact(body_of("x = 99;"), (("set", 0, "x", 99),))

    def test_load(self):
        self.exact(body_of("x = y.first;"), (("load", 0, "x", "y", 0),))
        self.exact(body_of("x = y.second;"), (("load", 0, "x", "y", 1),))
        self.exact(body_of("x = 8.second;"), (("load", 0, "x", 8, 1),))

    def test_store(self):
        self.exact(body_of("x.first = y;"), (("store", 0, "x", 0, "y"),))
        self.exact(body_of("x.second = 4;"), (("store", 0, "x", 1, 4),))
        self.exact(body_of("7.first = 4;"), (("store", 0, 7, 0, 4),))
        self.exact(body_of("7.second = x;"), (("store", 0, 7, 1, "x"),))

    def test_new(self):
        self.exact(body_of("x = new(y, 3);"), (("new", 0, "x", "y", 3),))
        self.exact(body_of("x = new(0, x);"), (("new", 0, "x", 0, "x"),))

    def test_free(self):
        self.exact(body_of("free x;"), (("free", 0, "x"),))
        self.exact(body_of("free 12;"), (("free", 0, 12),))

    def test_call(self):
        self.exact(body_of("x = g();"), (("call", 0, "x", "g", ()),))
        self.exact(body_of("x = g(y);"), (("call", 0, "x", "g", ("y",)),))
        self.exact(body_of("x = g(y, 1);"), (("call", 0, "x", "g", ("y", 1)),))
        self.exact(body_of("x = g(1, 2, 3, x, 5);"), (("call", 0, "x", "g", (1, 2, 3, "x", 5)),))

    def test_if(self):
        self.exact(body_of("if x = y { }"), (("if", 0, "x", "y", (), ()),))
        self.exact(body_of("if 1 = 2 { free x; }"), (("if", 0, 1, 2, (("free", 1, "x"),), ()),))
        self.exact(body_of("if x = 0 { } else { }"), (("if", 0, "x", 0, (), ()),))
        self.exact(body_of("if x = 0 { } else { free x; }"), (("if", 0, "x", 0, (), (("free", 1, "x"),)),))
        self.exact(body_of("if x = 0 { free y; x = 1; } else { free x; x = 2; } x = 3;"), (
            ("if", 0, "x", 0, (("free", 1, "y"), ("set", 2, "x", 1)), (("free", 3, "x"), ("set", 4, "x", 2))),
            ("set", 5, "x", 3)))

    def test_while(self):
        self.exact(body_of("while x != y { }"), (("while", 0, "x", "y", ()),))
        self.exact(body_of("while 0 != x { x = 0; y = 1; } free x;"), (
            ("while", 0, 0, "x", (("set", 1, "x", 0), ("set", 2, "y", 1))), ("free", 3, "x")))

    def test_blocks_within_blocks(self):
        text = """x = 1;
        while x != 0 { if x = y { while y != 2 { y = 2; } x = 3; } else { if 1 = 2 { } else { free x; } } free y; }
        if x = 1 { x = 2; } else { while x != 1 { } } x = 9;"""
        self.exact(body_of(text), (
            ("set", 0, "x", 1),
            ("while", 1, "x", 0, (
                ("if", 2, "x", "y",
                 (("while", 3, "y", 2, (("set", 4, "y", 2),)), ("set", 5, "x", 3)),
                 (("if", 6, 1, 2, (), (("free", 7, "x"),)),)),
                ("free", 8, "y"))),
            ("if", 9, "x", 1, (("set", 10, "x", 2),), (("while", 11, "x", 1, ()),)),
            ("set", 12, "x", 9)))

    def test_places_begin_anew_in_each_procedure(self):
        first, second = parse("procedure f() { x = 1; x = 2; return x; } procedure g() { x = 3; return x; }")
        self.exact(first[3], (("set", 0, "x", 1), ("set", 1, "x", 2)))
        self.exact(second[3], (("set", 0, "x", 3),))

    def test_hundreds_of_blocks_within_one_another(self):
        for opening, kind in (("if 0=0{", "if"), ("while 0!=0{", "while")):
            many = 5900 // (len(opening) + 1)
            (statement,) = body_of(opening * many + "}" * many)
            for place in range(many - 1):
                self.assertEqual(statement[:4], (kind, place, 0, 0))
                (statement,) = statement[4]
            self.assertEqual(statement[:5], (kind, many - 1, 0, 0, ()))
        many = 400
        (statement,) = body_of("if 0=0{}else{" * many + "}" * many)
        for place in range(many - 1):
            self.assertEqual(statement[:5], ("if", place, 0, 0, ()))
            (statement,) = statement[5]


class Misfits(Case):
    def check(self, texts):
        """The parser and the grammar agree about the tokens."""
        misfit = first_misfit([terminal_of(text) for text in texts])
        self.agree(texts, misfit)

    def agree(self, texts, misfit):
        text, places = laid_out(texts)
        if misfit is None:
            self.assertIsInstance(parse(text), tuple)
        else:
            line, column = places[misfit]
            self.fault(TextFault, {"line": line, "column": column, "reason": "unexpected token"}, parse, text)

    def test_the_whole_text_is_a_program(self):
        self.assertEqual(len(parse(WHOLE)), 2)
        self.assertIsNone(first_misfit([terminal_of(text) for text in WHOLE.split()]))

    def test_each_token_at_each_place(self):
        texts = WHOLE.split()
        rest = [terminal_of(text) for text in texts]
        ways = beginning()
        for at in range(len(texts) + 1):
            for terminal in TERMINALS:
                # put in, and put in the place of what stands there
                for skipped in (0, 1):
                    tail = texts[at + skipped:]
                    misfit = first_misfit([terminal] + rest[at + skipped:], ways)
                    self.agree(texts[:at] + [text_of(terminal)] + tail, None if misfit is None else at + misfit)
            if at < len(texts):
                ways = behind(ways, rest[at])

    def test_each_token_left_out_or_twice(self):
        texts = WHOLE.split()
        for at in range(len(texts)):
            self.check(texts[:at] + texts[at + 1:])
            self.check(texts[:at + 1] + texts[at:])

    def test_the_end_too_early(self):
        texts = WHOLE.split()
        for at in range(len(texts) + 1):
            self.check(texts[:at])

    def test_places_of_misfits(self):
        for text, line, column in (
                ("x", 1, 1), ("procedure", 1, 10), ("procedure f(x,) { return 0; }", 1, 15),
                ("procedure f() { return 0 }", 1, 26), ("procedure f() {\n  5 = x;\n return 0; }", 2, 5),
                ("procedure f() { return 0; }\n}", 2, 1), ("procedure f() { return 0; ", 1, 27),
                ("procedure f() { x = 5(1); return 0; }", 1, 22), ("procedure if() { return 0; }", 1, 11),
                ("procedure f() { if x != 0 { } return 0; }", 1, 22),
                ("procedure f() { while x = 0 { } return 0; }", 1, 25),
                ("procedure f() { else { } return 0; }", 1, 17),
                ("procedure f() { while 0 != 1 { } else { } return 0; }", 1, 34),
                ("procedure f() { if 0 = 1 { return 0; } return 0; }", 1, 28),
                ("procedure f() { x = y.third; return 0; }", 1, 23),
                ("procedure f(1) { return 0; }", 1, 13), ("# a\n ,", 2, 2), ("procedure f() { # a", 1, 20)):
            self.fault(TextFault, {"line": line, "column": column, "reason": "unexpected token"}, parse, text)

    def test_all_faults_of_tokens_come_first(self):
        for text, line, column, reason in (
                ("} 5a", 1, 4, "number ends here"),
                ("x\nabcdefghi", 2, 1, "name too long"),
                ("procedure procedure 100", 1, 21, "number too large"),
                ("procedure f() { return 0; } } } A", 1, 33, "unknown character"),
                ("A }", 1, 1, "unknown character"),
                ("}" + " " * 6000, 1, 1, "text too long")):
            self.fault(TextFault, {"line": line, "column": column, "reason": reason}, parse, text)

    def test_longest_text(self):
        program = "procedure f() { return 0; }"
        self.exact(parse(program.ljust(6000)), (("procedure", "f", (), (), 0),))
        self.fault(TextFault, {"line": 1, "column": 1, "reason": "text too long"}, parse, program.ljust(6001))


if __name__ == "__main__":
    unittest.main()

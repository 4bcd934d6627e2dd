import unittest

from heappacts.parsing import parse
from heappacts.printing import print_program
from helpers import Case

WHOLE = """procedure none() {
    return 0;
}

procedure one(x) {
    y = x;
    y = 99;
    y = x.first;
    y = 7.second;
    x.first = y;
    x.second = 0;
    3.first = x;
    y = new(x, 1);
    y = new(2, y);
    free x;
    free 5;
    return y;
}

procedure calls(x, y, z) {
    x = none();
    x = one(y);
    x = calls(1, y, 0);
    return x;
}

procedure blocks(a, b, c, d) {
    if a = b {
    }
    if a = 0 {
        free a;
    }
    if 1 = b {
    } else {
        free b;
        free c;
    }
    while a != b {
    }
    while 0 != a {
        if a = b {
            a = a.first;
        } else {
            b = 1;
            b = 2;
        }
        free d;
    }
    return 3;
}
"""


class Printing(Case):
    def test_no_procedure(self):
        self.exact(print_program(()), "")

    def test_one_procedure(self):
        self.exact(print_program((("procedure", "f", (), (), 0),)), "procedure f() {\n    return 0;\n}\n")
        self.exact(print_program((("procedure", "g", ("x", "y"), (("free", 0, "x"),), "y"),)),
                   "procedure g(x, y) {\n    free x;\n    return y;\n}\n")

    def test_whole_text(self):
        program = parse(WHOLE)
        self.exact(print_program(program), WHOLE)
        self.exact(parse(print_program(program)), program)

    def test_each_statement(self):
        for statement, text in (
                (("set", 0, "x", "y"), "x = y;"), (("set", 0, "x", 5), "x = 5;"),
                (("load", 0, "x", "y", 0), "x = y.first;"), (("load", 0, "x", 5, 1), "x = 5.second;"),
                (("store", 0, "x", 0, "y"), "x.first = y;"), (("store", 0, 4, 1, 5), "4.second = 5;"),
                (("new", 0, "x", "y", "z"), "x = new(y, z);"), (("new", 0, "x", 1, 2), "x = new(1, 2);"),
                (("free", 0, "x"), "free x;"), (("free", 0, 9), "free 9;"),
                (("call", 0, "x", "f", ()), "x = f();"), (("call", 0, "x", "f", ("y",)), "x = f(y);"),
                (("call", 0, "x", "f", ("y", 2, 3)), "x = f(y, 2, 3);")):
            program = (("procedure", "f", (), (statement,), "r"),)
            self.exact(print_program(program), "procedure f() {\n    " + text + "\n    return r;\n}\n")
            self.exact(parse(print_program(program)), program)

    def test_blocks_within_blocks(self):
        text = """procedure f(x) {
    if x = 0 {
        if x = 1 {
            while x != 2 {
                x = 3;
            }
        } else {
            if x = 4 {
            } else {
                x = 5;
            }
        }
    } else {
        while x != 6 {
            while x != 7 {
            }
        }
        x = 8;
    }
    return x;
}
"""
        self.exact(print_program(parse(text)), text)
        self.exact(parse(print_program(parse(text))), parse(text))

    def test_an_empty_else_is_not_printed(self):
        self.exact(print_program(parse("procedure f() { if 1 = 2 { } else { } return 0; }")),
                   "procedure f() {\n    if 1 = 2 {\n    }\n    return 0;\n}\n")

    def test_other_layouts_are_printed_alike(self):
        text = WHOLE.replace("\n", " ").replace("    ", "").replace(" ;", ";") + "# a remark"
        self.exact(print_program(parse(text)), WHOLE)

    def test_several_procedures(self):
        for many in range(1, 9):
            one = "procedure p{}() {{\n    return {};\n}}\n"
            text = "\n".join([one.format(number, number) for number in range(many)])
            self.exact(print_program(parse(text)), text)


if __name__ == "__main__":
    unittest.main()

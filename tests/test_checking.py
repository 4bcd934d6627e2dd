import unittest

from heappacts.checking import called, check, count, procedure_of
from heappacts.errors import ProgramFault
from heappacts.parsing import parse
from helpers import Case


def procedure(name, body="", parameters=""):
    return "procedure " + name + "(" + parameters + ") { " + body + " return 0; } "


def sets(many):
    return "x = 1; " * many


def nested(many, inner="x = 1;"):
    return "if a = b { " * many + inner + " }" * many


class Checks(Case):
    def good(self, text):
        program = parse(text)
        self.assertIsNone(check(program))
        self.exact(program, parse(text))

    def bad(self, text, name, place, reason):
        self.fault(ProgramFault, {"procedure": name, "place": place, "reason": reason}, check, parse(text))

    def test_no_faults(self):
        self.good("")
        self.good(procedure("f"))
        self.good(procedure("f", "x = f(x, y); while x != y { x = x.first; free x; x = new(x, y); }", "x, y"))

    def test_too_many_procedures(self):
        eight = "".join([procedure("p" + str(number)) for number in range(8)])
        self.good(eight)
        self.bad(eight + procedure("ninth"), "ninth", None, "too many procedures")
        self.bad(eight + procedure("ninth") + procedure("tenth"), "ninth", None, "too many procedures")

    def test_procedure_stands_twice(self):
        self.bad(procedure("f") + procedure("f"), "f", None, "procedure stands twice")
        self.bad(procedure("f") + procedure("g") + procedure("h") + procedure("g") + procedure("f"),
                 "g", None, "procedure stands twice")

    def test_too_many_parameters(self):
        self.good(procedure("f", "", "a, b, c, d"))
        self.bad(procedure("f", "", "a, b, c, d, e"), "f", None, "too many parameters")
        self.bad(procedure("f") + procedure("g", "", "a, b, c, d, e, f"), "g", None, "too many parameters")

    def test_parameter_stands_twice(self):
        self.bad(procedure("f", "", "a, a"), "f", None, "parameter stands twice")
        self.bad(procedure("f", "", "a, b, c, a"), "f", None, "parameter stands twice")
        self.bad(procedure("f", "", "a, b, c, b"), "f", None, "parameter stands twice")
        # a parameter may be called as a procedure or a variable is
        self.good(procedure("f", "f = 1; x = 2;", "f, x"))
        self.good(procedure("f", "", "a, b") + procedure("g", "", "a, b"))

    def test_too_many_statements(self):
        self.good(procedure("f", sets(14)) + procedure("g", sets(14)))
        self.bad(procedure("f", sets(15)), "f", None, "too many statements")
        self.good(procedure("f", "if a = b { " + sets(6) + "} else { " + sets(7) + "}"))
        self.bad(procedure("f", "if a = b { " + sets(7) + "} else { " + sets(7) + "}"), "f", None, "too many statements")
        self.good(procedure("f", "while a != b { if a = b { " + sets(12) + "} }"))
        self.bad(procedure("f", "while a != b { if a = b { } else { " + sets(13) + "} }"),
                 "f", None, "too many statements")

    def test_statements_hundreds_of_blocks_deep(self):
        for opening in ("if 0=0{", "while 0!=0{"):
            many = 5900 // (len(opening) + 1)
            self.bad(procedure("f", opening * many + "}" * many), "f", None, "too many statements")

    def test_too_deep(self):
        self.good(procedure("f", nested(2)))
        self.bad(procedure("f", nested(3)), "f", 3, "too deep")
        self.good(procedure("f", nested(2, "")))
        self.good(procedure("f", nested(3, "")))
        self.bad(procedure("f", nested(4, "")), "f", 3, "too deep")
        self.bad(procedure("f", nested(9)), "f", 3, "too deep")
        self.bad(procedure("f", "x = 1; while a != b { if a = b { } else { if b = a { } else { free x; } } }"),
                 "f", 4, "too deep")
        self.bad(procedure("f", "if a = b { } else { while a != b { x = 1; while b != a { free x; } } }"),
                 "f", 4, "too deep")
        self.bad(procedure("f", "while a != b { while a != b { while a != b { x = 1; free x; } } }"), "f", 3, "too deep")

    def test_many_statements_beside_each_other_are_not_deep(self):
        self.good(procedure("f", "if a = b { x = 1; } else { x = 2; } " * 4 + nested(1)))

    def test_unknown_procedure(self):
        self.bad(procedure("f", "x = g();"), "f", 0, "unknown procedure")
        self.bad(procedure("f", "x = 1; x = g();") + procedure("g"), "f", 1, "unknown procedure")
        self.good(procedure("g") + procedure("f", "x = g();"))
        self.good(procedure("f", "x = f();"))
        self.good(procedure("g") + procedure("h") + procedure("f", "x = g(); y = h(); z = f();"))
        self.bad(procedure("f", "if a = b { } else { while a != b { x = h(); } }"), "f", 2, "unknown procedure")
        # a variable is no procedure
        self.bad(procedure("f", "g = 1; x = g();", "g"), "f", 1, "unknown procedure")

    def test_wrong_number_of_arguments(self):
        wrong = "wrong number of arguments"
        for many in range(5):
            parameters = ", ".join("abcd"[:many])
            for other in range(6):
                actual = ", ".join("uvwxyz"[:other])
                text = procedure("g", "", parameters) + procedure("f", "x = 1; y = g(" + actual + ");")
                own = procedure("f", "x = 1; y = f(" + actual + ");", parameters)
                if many == other:
                    self.good(text)
                    self.good(own)
                else:
                    self.bad(text, "f", 1, wrong)
                    self.bad(own, "f", 1, wrong)
        self.bad(procedure("f", "if a = b { x = f(1); } else { x = f(); }", "x"), "f", 2, wrong)


class Order(Case):
    """Of two faults the one that comes first counts."""

    bad = Checks.bad
    good = Checks.good

    def test_within_a_procedure(self):
        calls = "x = no(); x = f(1); "
        before = "".join([procedure("f")] + [procedure("p" + str(number)) for number in range(7)])
        five, twice = "a, b, c, d, a", "a, b, a"
        self.bad(before + procedure("f", sets(15) + nested(3) + calls, five), "f", None, "too many procedures")
        self.bad(procedure("f") + procedure("f", nested(3) + calls + sets(12), five), "f", None, "procedure stands twice")
        self.bad(procedure("f", nested(3) + calls + sets(12), five), "f", None, "too many parameters")
        self.bad(procedure("f", nested(3) + calls + sets(12), twice), "f", None, "parameter stands twice")
        self.bad(procedure("f", nested(3) + calls + sets(12)), "f", None, "too many statements")

    def test_statements_in_the_order_of_places(self):
        self.bad(procedure("f", nested(3) + "x = no();"), "f", 3, "too deep")
        self.bad(procedure("f", "x = no();" + nested(3)), "f", 0, "unknown procedure")
        self.bad(procedure("f", "x = f(1);" + nested(3)), "f", 0, "wrong number of arguments")
        self.bad(procedure("f", "x = f(1); x = no();"), "f", 0, "wrong number of arguments")
        self.bad(procedure("f", "x = no(); x = f(1);"), "f", 0, "unknown procedure")
        self.bad(procedure("f", "if a = b { x = f(1); } else { x = no(); } x = no();"), "f", 1, "wrong number of arguments")
        self.bad(procedure("f", "while a != b { x = 1; x = no(); } x = f(1);"), "f", 2, "unknown procedure")
        self.bad(procedure("f", "if a = b { x = 1; } else { x = no(); } x = f(1);"), "f", 2, "unknown procedure")

    def test_one_statement_with_two_faults(self):
        self.bad(procedure("f", nested(3, "x = no();")), "f", 3, "too deep")
        self.bad(procedure("f", nested(3, "x = f(1);")), "f", 3, "too deep")

    def test_from_one_procedure_to_the_next(self):
        self.bad(procedure("f", "x = no();") + procedure("f", "", "a, a"), "f", 0, "unknown procedure")
        self.bad(procedure("g", sets(1) + "x = g(1);") + procedure("f", sets(15), "a, b, c, d, e"),
                 "g", 1, "wrong number of arguments")
        eight = "".join([procedure("p" + str(number)) for number in range(7)]) + procedure("last", nested(3))
        self.bad(eight + procedure("ninth"), "last", 3, "too deep")
        self.bad(procedure("g") + procedure("f", "", "a, a") + procedure("g", "x = no();"),
                 "f", None, "parameter stands twice")


class Questions(Case):
    def body(self, text):
        return parse(procedure("f", text))[0]

    def test_called(self):
        self.exact(called(self.body("x = 1;")), ())
        self.exact(called(self.body("x = b(); x = a(1); x = f(2);")), ("b", "a", "f"))
        self.exact(called(self.body("x = b(); x = a(); y = b(2); x = a(); x = c();")), ("b", "a", "c"))

    def test_called_within_branches_and_loops(self):
        self.exact(called(self.body(
            "if a = b { x = d(); } else { x = c(); while a != b { x = b(); } x = d(); } x = a(); x = c();")),
            ("d", "c", "b", "a"))
        self.exact(called(self.body("while a != b { if a = b { } else { x = z(); } x = y(); } x = z();")), ("z", "y"))

    def test_procedure_of(self):
        program = parse(procedure("f") + procedure("g", "x = 1;", "y") + procedure("h"))
        for one in program:
            self.exact(procedure_of(program, one[1]), one)

    def test_count(self):
        for text, many in (
                ("", 0), ("x = 1;", 1), (sets(5), 5), ("if a = b { }", 1), ("if a = b { x = 1; } else { x = 2; }", 3),
                ("while a != b { x = 1; y = 2; }", 3), (nested(3), 4), (nested(3, "") + sets(2), 5),
                ("while a != b { if a = b { x = 1; } else { while a != b { x = 1; } x = 2; } } x = 3;", 7)):
            self.exact(count(self.body(text)[3]), many)

    def test_count_of_hundreds_of_blocks(self):
        many = 700
        self.exact(count(self.body("if 0=0{" * many + "}" * many)[3]), many)


if __name__ == "__main__":
    unittest.main()

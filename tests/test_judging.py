import unittest

from drawn import Drawer
from heappacts.errors import TooMany
from heappacts.judging import faults_of, judge
from heappacts.parsing import parse
from heappacts.walking import tree
from helpers import Case, new, num, var
from samples import PROGRAM, SAMPLES
from trees import at, ways, with_node

ZERO = num(0)
X, Y, Z, U, V, W = (var(number) for number in range(6))
NEVER = ("never",)
YES, NO = True, False


def known(number):
    return ("known", number)


A, B, C, D, E = (known(number) for number in range(5))


def one(body, result="0", parameters="x"):
    return parse("procedure f(" + parameters + ") { " + body + " return " + result + "; }")


def ended(end, where, arguments=(X,), needs=(), absent=(), differ=()):
    return ("leaf", ("contract", arguments, needs, absent, differ, end, None, (), (("f", where),), 0))


def returned(result=ZERO, arguments=(X,), needs=(), differ=(), gives=(), news=0):
    return ("leaf", ("contract", arguments, needs, (), differ, "return", result, gives, (), news))


LOAD = one("y = x.first;", "y")
LOADED = returned(Y, (X,), ((X, Y, Z),), (), ((X, Y, Z),))
MISSING = ended("missing", 0, (X,), (), (X,), ((X, ZERO),))
NULL = ended("null", 0, (ZERO,))


def load_tree(null=NULL, loaded=LOADED, missing=MISSING):
    return ("same", A, ZERO, null, ("cell", A, loaded, missing))


class Judged(Case):
    def judged(self, program, made, *expected, name="f", depth=1, turns=0):
        """The tree is refused for just these reasons, (answers, reason)."""
        self.exact(faults_of(program, name, depth, turns, made), tuple(expected), made)
        self.exact(judge(program, name, depth, turns, made), not expected, made)


class Taken(Judged):
    def test_trees_of_procedures(self):
        for name, depth, turns in SAMPLES:
            self.judged(PROGRAM, tree(PROGRAM, name, depth, turns), name=name, depth=depth, turns=turns)

    def test_drawn(self):
        many = 0
        for seed in range(500):
            drawer = Drawer(seed, 10)
            program = drawer.program()
            depth, turns = drawer.random.randint(1, 4), drawer.random.randint(0, 3)
            try:
                made = tree(program, program[-1][1], depth, turns)
            except TooMany:
                continue
            many += 1
            self.judged(program, made, name=program[-1][1], depth=depth, turns=turns)
        self.assertGreater(many, 450)

    def test_limits_that_it_was_not_made_for(self):
        made = tree(PROGRAM, "both", 2, 0)
        self.judged(PROGRAM, made, *[(answers, "outcome") for answers, _ in ways(made)], name="both", depth=1)
        made = tree(PROGRAM, "walk", 1, 0)
        self.exact(ways(made)[1][1][1][5], "deep")
        self.judged(PROGRAM, made, ((NO,), "outcome"), name="walk", turns=1)

    def test_the_tree_by_hand(self):
        self.judged(LOAD, load_tree())
        self.judged(one(""), returned())
        self.judged(one("", "x"), returned(X))

    def test_questions_that_the_run_does_not_need(self):
        self.judged(one(""), ("same", A, num(5), returned(ZERO, (num(5),)), returned()))
        self.judged(one(""), ("cell", A, returned(), returned()))
        self.judged(one("", "x"), ("cell", A, ("same", B, A, returned(X), returned(X)), returned(X)))
        self.judged(LOAD, ("same", num(3), A, load_tree(null=NEVER, loaded=returned(
            X, (num(3),), ((num(3), X, Y),), (), ((num(3), X, Y),)), missing=ended(
                "missing", 0, (num(3),), (), (num(3),))), load_tree()))

    def test_questions_in_another_order(self):
        self.judged(LOAD, ("cell", A, ("same", A, ZERO, NEVER, LOADED), ("same", A, ZERO, NULL, MISSING)))
        self.judged(LOAD, ("cell", A, LOADED, ("same", ZERO, A, NULL, MISSING)))

    def test_contracts_for_more_than_the_leaf(self):
        """A leaf's contract must apply there, and may apply elsewhere too."""
        program = one("free x; y = x.first;")
        made = tree(program, "f", 1, 0)
        self.judged(program, with_node(made, (NO, YES), ended("freed", 1, (X,))))
        self.judged(one("if x = y { }"), ("same", A, ZERO, returned(), returned()))

    def test_other_forms_of_a_contract(self):
        """Other numbers of variables, pairs in another order, needed and given cells in any order."""
        program = one("z = x.first; u = y.first; z = z.first;", "z", "x, y")
        made = tree(program, "f", 1, 0)
        way = next(answers for answers, node in ways(made) if len(node[1][2]) == 3)
        contract = at(made, way)[1]
        numbers = (9, 4, 7, 2, 5, 0, 3, 1)

        def other(term):
            return var(numbers[term[1]]) if term[0] == "var" else term

        def others(rows, step):
            return tuple(tuple(other(term) for term in row) for row in rows[::step])
        kind, arguments, needs, absent, differ, end, result, gives, where, news = contract
        self.exact((len(needs), len(gives), len(differ)), (3, 3, 0))
        for step in (1, -1):
            changed = (kind, tuple(other(term) for term in arguments), others(needs, step), absent, others(differ, step),
                       end, other(result), others(gives, -step), where, news)
            self.judged(program, with_node(made, way, ("leaf", changed)))

    def test_a_procedure_without_end_of_its_own(self):
        self.judged(one("while 0 != 1 { }"), ended("deep", 0), turns=3)


class Never(Judged):
    def test_alone(self):
        self.judged(LOAD, NEVER, ((), "possible"))
        self.judged(one(""), NEVER, ((), "possible"))

    def test_at_an_answer_that_can_be(self):
        self.judged(LOAD, load_tree(null=NEVER), ((YES,), "possible"))
        self.judged(LOAD, load_tree(loaded=NEVER), ((NO, YES), "possible"))
        self.judged(LOAD, load_tree(missing=NEVER), ((NO, NO), "possible"))
        self.judged(LOAD, ("same", A, ZERO, NEVER, NEVER), ((YES,), "possible"), ((NO,), "possible"))

    def test_yes_to_words_that_are_certainly_unlike(self):
        load = load_tree()
        self.judged(LOAD, ("same", num(1), num(2), NEVER, load))
        self.judged(LOAD, ("same", A, ZERO, ("same", A, num(7), NEVER, NULL), load[4]))
        self.judged(LOAD, load_tree(missing=("same", A, ZERO, NEVER, MISSING)))
        # a cell is there, so it is not 0
        self.judged(LOAD, load_tree(loaded=("same", ZERO, A, NEVER, LOADED)))

    def test_cells_at_two_addresses(self):
        made = ("cell", A, ("same", B, A, returned(), ("cell", B, ("same", A, B, NEVER, returned()), returned())),
                returned())
        self.judged(one("", "0", "x, y"), with_node_arguments(made, (X, Y)))

    def test_a_cell_and_a_word_at_which_there_is_none(self):
        made = ("cell", A, ("cell", B, returned(), returned()), ("cell", B, ("same", A, B, NEVER, returned()), returned()))
        made = ("same", A, B, returned(), ("same", B, A, NEVER, made[3]))
        self.judged(one("", "0", "x, y"), with_node_arguments(made, (X, Y)))

    def test_yes_to_a_cell_that_cannot_be_there(self):
        self.judged(one(""), ("cell", ZERO, NEVER, returned()))
        self.judged(one(""), ("cell", ZERO, returned(), returned()), ((YES,), "shape"))
        self.judged(one(""), ("cell", A, returned(), ("cell", A, NEVER, returned())))
        self.judged(one(""), ("same", A, ZERO, ("cell", A, NEVER, returned()), returned()))
        self.judged(one("", "0", "x, y"), with_node_arguments(
            ("same", A, B, ("cell", A, returned(), ("cell", B, NEVER, returned())), returned()), (X, Y)))
        # the other answer can be given
        self.judged(one(""), ("cell", ZERO, NEVER, NEVER), ((NO,), "possible"))
        self.judged(one(""), ("same", num(3), num(4), NEVER, NEVER), ((NO,), "possible"))


def with_node_arguments(tree, arguments):
    """The tree with these arguments in the contracts of its leaves."""
    for answers, node in ways(tree):
        if node != NEVER:
            tree = with_node(tree, answers, ("leaf", node[1][:1] + (arguments,) + node[1][2:]))
    return tree


class Shape(Judged):
    def test_what_is_no_node(self):
        for node in ("leaf", "", "never", 0, 7, True, None, (), ("leaf",), ("leaf", LOADED[1], 1), ("never", 1), ("other",),
                     ("leaf", None), (LOADED[1],), ["leaf", LOADED[1]], ["never"], {}, 3.5, ("same",), ("cell", A),
                     ("same", A, ZERO, LOADED), ("same", A, ZERO, LOADED, LOADED, LOADED), ("cell", A, LOADED),
                     ("cell", A, LOADED, LOADED, LOADED), (None, A, LOADED, LOADED), (("leaf",), LOADED[1]),
                     ["cell", A, LOADED, LOADED], b"never", (b"never",), LOADED[1], ("Leaf", LOADED[1]), (0,), ("",)):
            self.judged(LOAD, node, ((), "shape"))
            self.judged(LOAD, load_tree(loaded=node), ((NO, YES), "shape"))
            self.judged(LOAD, load_tree(null=node, missing=node), ((YES,), "shape"), ((NO, NO), "shape"))

    def contract_at(self, place, thing):
        contract = LOADED[1]
        self.judged(LOAD, load_tree(loaded=("leaf", contract[:place] + (thing,) + contract[place + 1:])),
                    ((NO, YES), "shape"))

    def test_what_is_no_contract(self):
        contract = LOADED[1]
        for thing in (None, "contract", 3, (), contract[:-1], contract + (0,), list(contract), True, (contract,)):
            self.judged(LOAD, load_tree(loaded=("leaf", thing)), ((NO, YES), "shape"))

    def test_each_place_of_a_contract(self):
        for place in range(10):
            for thing in (True, 1.5, "text", b"", {}, [], object(), (1,), (None,), ((),), -1):
                self.contract_at(place, thing)
        for place in (0, 1, 2, 3, 4, 5, 7, 8, 9):
            self.contract_at(place, None)
        for place in (0, 1, 2, 3, 4, 5, 6, 7, 8):
            self.contract_at(place, 0)
        for place in (0, 5, 6, 9):
            self.contract_at(place, ())

    def test_kinds_and_ends(self):
        self.contract_at(0, "Contract")
        for end in ("Return", "end", "", ("return",), ["return"], b"return"):
            self.contract_at(5, end)

    def test_terms(self):
        for term in (("num", 100), ("num", -1), ("num", True), ("num", "1"), ("num",), ("num", 1, 1), ("num", None),
                     ("var", -1), ("var", False), ("var", "0"), ("var", 0.0), ("new", -1), ("new", True), ("known", 0),
                     ("other", 0), ["var", 0], [("var", 0)], "x", 0, None, (), ("var", (0,)), (0, "var"), (X,)):
            for thing in ((term,), (X, term), [X]):
                self.contract_at(1, thing)
            for place in (2, 7):
                for cell in ((term, Y, Z), (X, term, Z), (X, Y, term), (X, Y), (X, Y, Z, Z), [X, Y, Z], X, ()):
                    self.contract_at(place, (cell,))
                    self.contract_at(place, ((X, Y, Z), cell))
            for pair in ((term, X), (X, term), (X,), (X, Y, Z), [X, Y], ()):
                self.contract_at(4, (pair,))
            if term is not None:
                self.contract_at(6, term)
            missing = MISSING[1]
            self.judged(LOAD, load_tree(missing=("leaf", missing[:3] + ((term,),) + missing[4:])), ((NO, NO), "shape"))

    def test_how_many_absent_addresses(self):
        contract = LOADED[1]
        for absent in ((X,), (num(5),), (X, Y)):
            self.contract_at(3, absent)
        for absent in ((), (X, X)):
            missing = MISSING[1][:3] + (absent,) + MISSING[1][4:]
            self.judged(LOAD, load_tree(missing=("leaf", missing)), ((NO, NO), "shape"))
        self.exact(contract[3], ())

    def test_where(self):
        for where in (("f", 0), (("f",),), (("f", 0, 0),), (("f", -1),), (("f", True),), (("f", None),), ((0, "f"),),
                      ((None, 0),), (["f", 0],), [("f", 0)], "f0", ((("f",), 0),)):
            null = NULL[1][:8] + (where,) + NULL[1][9:]
            self.judged(LOAD, load_tree(null=("leaf", null)), ((YES,), "shape"))

    def test_new_addresses_of_what_does_not_return(self):
        null = NULL[1][:9] + (1,)
        self.judged(LOAD, load_tree(null=("leaf", null)), ((YES,), "shape"))

    def test_how_many_arguments_is_no_part_of_it(self):
        for arguments in ((), (X, X), (X, var(7))):
            self.judged(LOAD, load_tree(null=("leaf", NULL[1][:1] + (arguments,) + NULL[1][2:])), ((YES,), "applies"))


class Questions(Judged):
    """A question that cannot be asked: each leaf behind it is refused."""

    def all_refused(self, program, question, before=lambda node: node, answers=()):
        made = before(question + (returned(), ("same", A, num(1), returned(ZERO, (num(1),)), returned())))
        self.judged(program, made, *[(answers + way, "shape") for way in ((YES,), (NO, YES), (NO, NO))])

    def test_words_that_are_none(self):
        for word in (B, known(7), known(-1), known(True), known(None), ("known",), ("known", 0, 0), new(0), X, num(100),
                     num(-1), num(True), num("3"), ("num",), None, 0, "known", (), ["known", 0], ("other", 0), 100):
            self.all_refused(one(""), ("same", A, word))
            self.all_refused(one(""), ("same", word, A))
            self.all_refused(one(""), ("cell", word))

    def test_words_that_are_there(self):
        self.judged(one(""), ("same", A, num(99), returned(), returned()))
        self.judged(one(""), ("cell", num(99), returned(), returned()))
        self.judged(one(""), ("cell", A, ("same", C, B, returned(), returned()), returned()))

    def test_known_words_hang_on_the_way(self):
        self.all_refused(one(""), ("same", A, B), lambda node: ("cell", A, returned(), node), (NO,))
        self.all_refused(one(""), ("same", A, B), lambda node: ("same", A, num(8), node, returned()), (YES,))
        self.all_refused(one(""), ("same", A, D), lambda node: ("cell", A, node, returned()), (YES,))

    def test_words_that_are_certainly_the_same(self):
        self.all_refused(one(""), ("same", A, A))
        self.all_refused(one(""), ("same", num(4), num(4)))
        for question in (("same", A, num(4)), ("same", num(4), A)):
            self.all_refused(one(""), question, lambda node: ("same", A, num(4), node, returned()), (YES,))
        self.all_refused(one("", "0", ""), ("same", ZERO, ZERO), lambda node: with_node_arguments(node, ()))

    def test_a_cell_that_may_be_one_that_is_there(self):
        self.all_refused(one(""), ("cell", A), lambda node: ("cell", A, node, returned()), (YES,))
        self.all_refused(one(""), ("cell", B), lambda node: ("cell", A, node, returned()), (YES,))
        self.all_refused(one(""), ("cell", num(5)), lambda node: ("cell", A, node, returned()), (YES,))
        # it is not where it is certain
        self.judged(one(""), ("cell", A, ("cell", ZERO, NEVER, returned()), returned()))
        self.judged(one(""), ("cell", A, ("same", B, A, returned(), ("cell", B, returned(), returned())), returned()))
        self.judged(one(""), ("cell", num(5), ("cell", num(6), returned(), returned()), returned()))

    def test_an_answer_that_cannot_be_given(self):
        self.judged(one(""), ("same", num(1), num(2), returned(), returned()), ((YES,), "shape"))
        behind = ("same", A, num(1), returned(), NEVER)
        self.judged(one(""), ("same", num(1), num(2), behind, returned()), ((YES, YES), "shape"), ((YES, NO), "shape"))
        self.judged(one(""), ("same", A, ZERO, ("cell", A, returned(), returned()), returned()), ((YES, YES), "shape"))
        self.judged(one(""), ("same", num(1), num(2), None, returned()), ((YES,), "shape"))
        self.judged(one(""), ("same", num(1), num(2), ("never", 0), returned()), ((YES,), "shape"))

    def test_never_behind_a_question_that_cannot_be_asked(self):
        self.judged(one(""), ("same", A, A, returned(), NEVER), ((YES,), "shape"), ((NO,), "shape"))
        self.judged(one(""), ("same", A, B, NEVER, NEVER), ((YES,), "shape"), ((NO,), "shape"))

    def test_what_is_no_node_behind_it(self):
        self.judged(one(""), ("cell", new(0), None, 7), ((YES,), "shape"), ((NO,), "shape"))


class Reasons(Judged):
    """One change at one leaf."""

    def changed(self, way, place, thing, reason):
        made = load_tree()
        contract = at(made, way)[1]
        node = ("leaf", contract[:place] + (thing,) + contract[place + 1:])
        self.judged(LOAD, with_node(made, way, node), *([(way, reason)] if reason else []))

    NULL, LOADED, MISSING = (YES,), (NO, YES), (NO, NO)

    def test_applies(self):
        self.changed(self.NULL, 1, (num(1),), "applies")
        self.changed(self.LOADED, 1, (ZERO,), "applies")
        self.changed(self.LOADED, 1, (num(99),), "applies")
        self.changed(self.LOADED, 1, (new(0),), "applies")
        self.changed(self.LOADED, 2, ((X, X, Z),), "applies")
        self.changed(self.LOADED, 2, ((X, Y, Y),), "applies")
        self.changed(self.LOADED, 2, ((X, new(0), Y),), "applies")
        self.changed(self.LOADED, 2, ((X, Y, Z), (Y, Z, U)), "applies")
        self.changed(self.LOADED, 2, ((X, Y, Z), (X, Y, Z)), "applies")
        self.changed(self.LOADED, 2, ((ZERO, Y, Z),), "applies")
        self.changed(self.LOADED, 2, ((Y, X, Z),), "applies")
        self.changed(self.LOADED, 4, ((X, X),), "applies")
        self.changed(self.LOADED, 4, ((num(3), num(3)),), "applies")
        self.changed(self.MISSING, 2, ((X, Y, Z),), "applies")
        self.changed(self.NULL, 4, ((ZERO, ZERO),), "applies")

    def test_an_absent_address_with_a_cell(self):
        program = one("z = x.first; z = y.first;", "z", "x, y")
        made = tree(program, "f", 1, 0)
        way = next(answers for answers, node in ways(made) if node[1][5] == "missing" and node[1][2])
        contract = at(made, way)[1]
        self.exact(contract[3], (Y,))
        node = ("leaf", contract[:3] + ((X,),) + contract[4:])
        self.judged(program, with_node(made, way, node), (way, "applies"))

    def test_conditions(self):
        self.changed(self.LOADED, 4, ((Y, Z),), "conditions")
        self.changed(self.LOADED, 4, ((Y, num(7)),), "conditions")
        self.changed(self.LOADED, 4, ((X, num(7)),), "conditions")
        self.changed(self.MISSING, 4, ((X, ZERO), (X, num(99))), "conditions")
        self.changed(self.LOADED, 4, ((X, U),), "conditions")
        # these are certain
        self.changed(self.LOADED, 4, ((X, ZERO),), None)
        self.changed(self.LOADED, 4, ((ZERO, X), (num(3), num(4)), (new(0), X), (new(0), new(1))), None)
        self.changed(self.MISSING, 4, (), None)
        self.changed(self.NULL, 4, ((ZERO, num(99)), (num(99), ZERO)), None)

    def test_an_absent_address_that_the_facts_do_not_say(self):
        program = one("z = x.first;", "z", "x, y")
        made = tree(program, "f", 1, 0)
        way = (NO, NO)
        contract = at(made, way)[1]
        for term, reason in ((X, None), (Y, "conditions"), (num(5), "conditions"), (ZERO, None), (var(9), "conditions"),
                             (new(0), "conditions")):
            node = ("leaf", contract[:3] + ((term,),) + contract[4:])
            self.judged(program, with_node(made, way, node), *([(way, reason)] if reason else []))

    def test_outcome(self):
        for end in ("null", "freed", "deep"):
            self.changed(self.LOADED, 5, end, "outcome")
        for end in ("return", "freed", "deep"):
            self.changed(self.NULL, 5, end, "outcome")
        for where in ((), (("f", 1),), (("g", 0),), (("f", 0), ("f", 0)), (("F%", 0),)):
            self.changed(self.NULL, 8, where, "outcome")
            self.changed(self.MISSING, 8, where, "outcome")
        self.changed(self.LOADED, 8, (("f", 0),), "outcome")
        for result in (X, Z, ZERO, num(99), new(0), U, None):
            self.changed(self.LOADED, 6, result, "outcome")
        for gives in ((), ((X, Z, Y),), ((X, Y, X),), ((X, Y, Z), (X, Y, Z)), ((X, Y, Z), (Y, Y, Z)), ((Y, X, Z),),
                      ((X, Y, Z), (new(0), ZERO, ZERO)), ((X, Y, U),), ((X, Y, Z), (ZERO, Y, Z)), ((new(0), Y, Z),)):
            self.changed(self.LOADED, 7, gives, "outcome")
        for news in (1, 2):
            self.changed(self.LOADED, 9, news, "outcome")

    def test_new_addresses(self):
        program = one("y = new(x, 1); free y; y = new(2, x); z = x.first;", "y")
        made = tree(program, "f", 1, 0)
        way = next(answers for answers, node in ways(made) if node[1][5] == "return")
        contract = at(made, way)[1]
        self.exact((contract[6], contract[9]), (new(1), 2))
        for place, thing in ((6, new(0)), (6, new(2)), (9, 1), (9, 3), (9, 0), (7, contract[7][:1]), (7, contract[7][1:]),
                             (7, contract[7] + ((new(0), X, num(1)),)), (7, ((new(0), num(2), X),) + contract[7][:1])):
            node = ("leaf", contract[:place] + (thing,) + contract[place + 1:])
            self.judged(program, with_node(made, way, node), (way, "outcome"))
        self.judged(program, with_node(made, way, ("leaf", contract[:7] + (contract[7][::-1],) + contract[8:])))

    def test_question(self):
        # right on the example alone
        cell = ((X, Y, Z),)
        for body in ("if x = 5 { y = 1; }", "if 5 = x { y = 1; }", "if x = z { y = 1; } if x = 7 { y = 2; }"):
            self.judged(one(body, "y"), returned(), ((), "question"))
        self.judged(one("if x = y { z = 1; }", "z", "x, y"), returned(ZERO, (X, Y)), ((), "question"))
        self.judged(one("y = x.first;"), ("cell", A, returned(ZERO, (X,), cell, (), cell), MISSING),
                    ((NO,), "conditions"))
        self.judged(one("y = x.first;"), ("cell", A, returned(ZERO, (X,), cell, (), cell), ended(
            "missing", 0, (X,), (), (X,))), ((NO,), "question"))
        self.judged(one("y = x.first;"), ("same", A, ZERO, NULL, ended("missing", 0, (X,), (), (ZERO,))),
                    ((NO,), "question"))
        self.judged(one("y = 5.first;"), ended("missing", 0, (X,), (), (ZERO,)), ((), "question"))
        self.judged(one("y = 5.first;"), ended("missing", 0, (X,), (), (num(5),)), ((), "conditions"))

    def test_questions_that_need_nothing(self):
        # the same words, a cell that is there, one that was freed, 0
        program = one("if x = y { } x.first = 1; free x; z = x.first;", "z", "x, y")
        made = tree(program, "f", 1, 0)
        self.judged(program, made)
        self.assertIn("freed", [node[1][5] for _, node in ways(made)])

    def test_new_addresses_in_questions(self):
        program = one("y = new(x, x); if y = x { z = 1; } z = y.first; if y = 0 { z = 2; } u = new(0, 0); if u = y { z = 3; }",
                      "z")
        self.judged(program, tree(program, "f", 1, 0))
        self.exact(len(ways(tree(program, "f", 1, 0))), 1)

    def test_the_first_reason_counts(self):
        contract = LOADED[1]

        def judged(reason, *changes):
            made = list(contract)
            for place, thing in changes:
                made[place] = thing
            self.judged(LOAD, load_tree(loaded=("leaf", tuple(made))), ((NO, YES), reason))
        wrong = ((9, -1), (1, (ZERO,)), (4, ((Y, Z),)), (6, X))
        judged("shape", *wrong)
        judged("applies", *wrong[1:])
        judged("conditions", *wrong[2:])
        judged("outcome", *wrong[3:])
        # the outcome before a question
        self.judged(one("if x = 5 { y = 1; }", "y"), returned(num(2)), ((), "outcome"))

    def test_several_leaves_from_the_left_to_the_right(self):
        self.judged(LOAD, load_tree(None, returned(), MISSING), ((YES,), "shape"), ((NO, YES), "outcome"))
        self.judged(LOAD, load_tree(NULL, NEVER, NULL), ((NO, YES), "possible"), ((NO, NO), "applies"))

    def test_a_contract_that_could_mean_any_cell(self):
        # no word before tells the address, so another heap could have several such cells
        self.changed(self.LOADED, 2, ((U, Y, Z),), "applies")


class Drawn(Judged):
    """One change at a leaf of a drawn procedure's tree is told there, or the leaf is still right."""

    def mutants(self, drawer, contract):
        choice = drawer.random.choice
        yield "shape", contract[:9]
        yield "shape", contract[:5] + ("ended",) + contract[6:]
        yield "shape", contract[:1] + ((num(100),) * len(contract[1]) + (num(100),),) + contract[2:]
        yield "applies", contract[:1] + (contract[1] + (X,),) + contract[2:]
        yield "applies", contract[:4] + (contract[4] + ((Z, Z),),) + contract[5:]
        yield "applies", contract[:2] + (contract[2] + ((num(98), X, X),),) + contract[3:]
        yield "conditions", contract[:4] + (contract[4] + ((num(97), var(50)),),) + contract[5:]
        if contract[5] == "return":
            yield "outcome", contract[:5] + (choice(("null", "freed", "deep")), None, (), (("f0", 0),), 0)
            yield "outcome", contract[:9] + (contract[9] + 1,)
            yield "outcome", contract[:6] + (new(contract[9] + 5),) + contract[7:]
            yield "outcome", contract[:7] + (contract[7] + ((num(96), ZERO, ZERO),),) + contract[8:]
            if contract[7]:
                yield "outcome", contract[:7] + (contract[7][1:],) + contract[8:]
        else:
            yield "outcome", contract[:8] + (contract[8] + (("f0", 0),),) + contract[9:]
            yield "outcome", contract[:8] + (contract[8][:-1] + ((contract[8][-1][0], 90),),) + contract[9:]

    def test_drawn(self):
        reasons = {}
        for seed in range(120):
            drawer = Drawer(seed, 9)
            program = drawer.program()
            _, name, _, _, _ = program[-1]
            depth, turns = drawer.random.randint(1, 3), drawer.random.randint(0, 2)
            made = tree(program, name, depth, turns)
            found = ways(made)
            for answers, node in drawer.random.sample(found, min(3, len(found))):
                for reason, mutant in self.mutants(drawer, node[1]):
                    self.judged(program, with_node(made, answers, ("leaf", mutant)), (answers, reason),
                                name=name, depth=depth, turns=turns)
                    reasons[reason] = reasons.get(reason, 0) + 1
        for reason in ("shape", "applies", "conditions", "outcome"):
            self.assertGreater(reasons[reason], 100)

    def test_leaves_of_another_place(self):
        """The contracts of two leaves change places: what is taken then is right on both."""
        refused = 0
        for seed in range(150):
            drawer = Drawer(seed, 9)
            program = drawer.program()
            _, name, parameters, _, _ = program[-1]
            made = tree(program, name, 2, 1)
            found = ways(made)
            if len(found) < 2:
                continue
            (first, one_node), (second, other_node) = drawer.random.sample(found, 2)
            changed = with_node(with_node(made, first, other_node), second, one_node)
            faults = faults_of(program, name, 2, 1, changed)
            self.assertLessEqual({answers for answers, _ in faults}, {first, second})
            self.exact(judge(program, name, 2, 1, changed), faults == ())
            refused += len(faults)
        self.assertGreater(refused, 150)


class Deep(Judged):
    def test_more_questions_than_python_can_have_calls(self):
        made = returned()
        for number in range(3000):
            made = ("cell", A, ("leaf", number), made) if number == 1500 else ("same", num(1), num(2), NEVER, made)
        self.judged(one(""), made, ((NO,) * 1499 + (YES,), "shape"))


if __name__ == "__main__":
    unittest.main()

import unittest

from drawn import Drawer
from heappacts.asking import Asked, Asker, explore
from heappacts.errors import TooMany
from heappacts.finding import contracts
from heappacts.machine import first_new, run
from heappacts.ordering import put_in_order
from heappacts.parsing import parse
from heappacts.unknown import run_unknown
from helpers import Case, new, num
from samples import PROGRAM, SAMPLES

ZERO = num(0)
YES, NO = True, False


def known(number):
    return ("known", number)


A, B, C, D, E, F, G = (known(number) for number in range(7))


def one(body, result="0", parameters="x, y"):
    return parse("procedure f(" + parameters + ") { " + body + " return " + result + "; }")


class Unknown(Case):
    def run_it(self, program, answers, name="f", depth=1, turns=0, actual=None):
        """The questions of a run with these answers, its asker, and what it gives; all answers are needed."""
        many = {procedure[1]: len(procedure[2]) for procedure in program}[name]
        actual = tuple(known(number) for number in range(many)) if actual is None else actual
        questions = []
        for taken in range(len(answers)):
            with self.assertRaises(Asked) as caught:
                run_unknown(Asker(many, answers[:taken]), program, name, actual, depth, turns)
            questions.append(caught.exception.question)
        asker = Asker(many, answers)
        found = run_unknown(asker, program, name, actual, depth, turns)
        self.exact(asker.taken, len(answers))
        return questions, asker, found

    def gives(self, program, answers, questions, found, **how):
        told, _, given = self.run_it(program, answers, **how)
        self.exact(told, list(questions))
        self.exact(given, found)


class Ends(Unknown):
    def test_return(self):
        self.gives(one("", "x"), (), (), ("return", A, (), (), None, 0))
        self.gives(one("", "7"), (), (), ("return", num(7), (), (), None, 0))
        self.gives(one("", "z"), (), (), ("return", ZERO, (), (), None, 0))
        self.gives(one("z = y; x = z;", "x"), (), (), ("return", B, (), (), None, 0))
        self.gives(one("x = new(x, 4);", "x"), (), (), ("return", new(0), ((new(0), A, num(4)),), (), None, 1))

    def test_null(self):
        for access in ("z = x.first;", "x.second = 1;", "free x;"):
            self.gives(one("z = new(y, z); " + access), (YES,), (("same", A, ZERO),),
                       ("null", None, ((new(0), B, ZERO),), (("f", 1),), None, 1))
        self.gives(one("free 0;"), (), (), ("null", None, (), (("f", 0),), None, 0))

    def test_missing(self):
        for access in ("z = x.first;", "x.second = 1;", "free x;"):
            self.gives(one("z = new(y, z); " + access), (NO, NO), (("same", A, ZERO), ("cell", A)),
                       ("missing", None, ((new(0), B, ZERO),), (("f", 1),), A, 1))
        self.gives(one("free 7;"), (NO,), (("cell", num(7)),), ("missing", None, (), (("f", 0),), num(7), 0))

    def test_freed(self):
        for access in ("z = x.first;", "x.second = 1;", "free x;"):
            self.gives(one("z = new(y, z); free x; " + access), (NO, YES), (("same", A, ZERO), ("cell", A)),
                       ("freed", None, ((new(0), B, ZERO),), (("f", 2),), None, 1))
        self.gives(one("z = new(y, y); free z; free z;"), (), (), ("freed", None, (), (("f", 2),), None, 1))

    def test_deep(self):
        self.gives(one("z = new(x, y); z = f(x, y);"), (), (),
                   ("deep", None, ((new(0), A, B),), (("f", 1),), None, 1))
        self.gives(one("while x != y { z = new(x, z); }"), (NO,), (("same", A, B),),
                   ("deep", None, ((new(0), A, ZERO),), (("f", 0),), None, 1), turns=1)

    def test_at_is_none_but_for_missing(self):
        self.gives(one("free x; free y;"), (NO, YES, NO, NO, NO), (
            ("same", A, ZERO), ("cell", A), ("same", B, ZERO), ("same", B, A), ("cell", B)),
            ("missing", None, (), (("f", 1),), B, 0))
        self.gives(one("free x; free y;"), (NO, YES, NO, YES), (
            ("same", A, ZERO), ("cell", A), ("same", B, ZERO), ("same", B, A)),
            ("freed", None, (), (("f", 1),), None, 0))


class Accesses(Unknown):
    def test_what_is_loaded_stored_and_freed(self):
        self.gives(one("z = x.first;", "z"), (NO, YES), (("same", A, ZERO), ("cell", A)),
                   ("return", C, ((A, C, D),), (), None, 0))
        self.gives(one("z = x.second;", "z"), (NO, YES), (("same", A, ZERO), ("cell", A)),
                   ("return", D, ((A, C, D),), (), None, 0))
        self.gives(one("x.first = y;"), (NO, YES), (("same", A, ZERO), ("cell", A)),
                   ("return", ZERO, ((A, B, D),), (), None, 0))
        self.gives(one("x.second = 5; y = x.second;", "y"), (NO, YES), (("same", A, ZERO), ("cell", A)),
                   ("return", num(5), ((A, C, num(5)),), (), None, 0))
        self.gives(one("free x;"), (NO, YES), (("same", A, ZERO), ("cell", A)), ("return", ZERO, (), (), None, 0))

    def test_the_cells_of_the_start_stay_as_they_were(self):
        for body in ("x.first = y;", "free x;", "x.second = x; free x;"):
            _, asker, _ = self.run_it(one(body), (NO, YES))
            self.exact(asker.cells, ((A, C, D),))

    def test_0_is_asked_once_if_it_is_certain(self):
        self.gives(one("z = x.first; z = x.second;", "z"), (NO, YES), (("same", A, ZERO), ("cell", A)),
                   ("return", D, ((A, C, D),), (), None, 0))
        self.gives(one("if x = 0 { } else { free x; }"), (NO, NO), (("same", A, ZERO), ("cell", A)),
                   ("missing", None, (), (("f", 1),), A, 0))
        self.gives(one("if x = 0 { free x; }"), (YES,), (("same", A, ZERO),), ("null", None, (), (("f", 1),), None, 0))

    def test_new_cells_and_constants_need_no_question(self):
        self.gives(one("z = new(x, y); z.first = y; x = z.second; y = z.first;", "y"), (), (),
                   ("return", B, ((new(0), B, B),), (), None, 1))
        self.gives(one("z = 7.first; y = 7.second;", "y"), (YES,), (("cell", num(7)),),
                   ("return", D, ((num(7), C, D),), (), None, 0))

    def test_the_order_of_the_questions(self):
        # two cells of the start, a made one, a freed one of the start; the made one is certainly another one
        program = one("a = x.first; b = y.first; c = z.first; d = new(x, y); free y; a = u.first;", "a", "x, y, z, u")
        before = (NO, YES, NO, NO, YES, NO, NO, NO, YES)
        asked = [("same", A, ZERO), ("cell", A), ("same", B, ZERO), ("same", B, A), ("cell", B),
                 ("same", C, ZERO), ("same", C, A), ("same", C, B), ("cell", C)]
        cells = ((A, known(4), known(5)), (B, known(6), known(7)), (C, known(8), known(9)))
        made = (new(0), A, B)
        self.gives(program, before + (YES,), asked + [("same", D, ZERO)],
                   ("null", None, (cells[0], cells[2], made), (("f", 5),), None, 1))
        asked.append(("same", D, ZERO))
        self.gives(program, before + (NO, YES), asked + [("same", D, A)],
                   ("return", known(4), (cells[0], cells[2], made), (), None, 1))
        self.gives(program, before + (NO, NO, YES), asked + [("same", D, A), ("same", D, C)],
                   ("return", known(8), (cells[0], cells[2], made), (), None, 1))
        asked += [("same", D, A), ("same", D, C), ("same", D, B)]
        self.gives(program, before + (NO, NO, NO, YES), asked, ("freed", None, (cells[0], cells[2], made),
                                                                (("f", 5),), None, 1))
        asked.append(("cell", D))
        self.gives(program, before + (NO, NO, NO, NO, NO), asked, ("missing", None, (cells[0], cells[2], made),
                                                                   (("f", 5),), D, 1))
        self.gives(program, before + (NO, NO, NO, NO, YES), asked, (
            "return", known(10), (cells[0], cells[2], (D, known(10), known(11)), made), (), None, 1))

    def test_freed_ones_in_their_order(self):
        program = one("free x; free y; free z;", "0", "x, y, z")
        self.gives(program, (NO, YES, NO, NO, YES, NO, NO, YES), (
            ("same", A, ZERO), ("cell", A), ("same", B, ZERO), ("same", B, A), ("cell", B),
            ("same", C, ZERO), ("same", C, A), ("same", C, B)), ("freed", None, (), (("f", 2),), None, 0))

    def test_the_word_that_is_compared_first_is_told_first(self):
        self.gives(one("if y = x { z = 1; } if 5 = y { }", "z"), (NO, NO), (("same", B, A), ("same", num(5), B)),
                   ("return", ZERO, (), (), None, 0))
        self.gives(one("if y = x { z = 1; } free y;", "z"), (YES, NO, NO), (
            ("same", B, A), ("same", A, ZERO), ("cell", A)), ("missing", None, (), (("f", 2),), B, 0))

    def test_a_word_at_which_there_is_none(self):
        # known from a run before
        asker = Asker(2, (NO, NO))
        run_unknown(asker, one("free x;"), "f", (A, B), 1, 0)
        self.exact(run_unknown(asker, one("z = x.first;"), "f", (A, B), 1, 0),
                   ("missing", None, (), (("f", 0),), A, 0))
        self.exact(asker.taken, 2)

    def test_cells_of_the_start_before_those_that_were_made(self):
        self.gives(one("y = new(0, 1); z = new(2, y); z.first = 3; y = x.first;", "y"), (NO, YES),
                   (("same", A, ZERO), ("cell", A)), (
                       "return", C, ((A, C, D), (new(0), ZERO, num(1)), (new(1), num(3), new(0))), (), None, 2))
        self.gives(one("y = new(0, 1); z = new(2, y); free y; y = x.first;", "z"), (NO, YES),
                   (("same", A, ZERO), ("cell", A)), (
                       "return", new(1), ((A, C, D), (new(1), num(2), new(0))), (), None, 2))


class Control(Unknown):
    def test_branches(self):
        program = one("if x = y { z = 1; } else { z = 2; } if x = y { z = new(z, z); }", "z")
        self.gives(program, (YES,), (("same", A, B),), ("return", new(0), ((new(0), num(1), num(1)),), (), None, 1))
        self.gives(program, (NO,), (("same", A, B),), ("return", num(2), (), (), None, 0))

    def test_loops(self):
        program = one("while x != 0 { x = x.second; }", "x", "x")
        self.gives(program, (YES,), (("same", A, ZERO),), ("return", A, (), (), None, 0))
        self.gives(program, (NO,), (("same", A, ZERO),), ("deep", None, (), (("f", 0),), None, 0))
        self.gives(program, (NO, YES, YES), (("same", A, ZERO), ("cell", A), ("same", C, ZERO)),
                   ("return", C, ((A, B, C),), (), None, 0), turns=3)
        self.gives(program, (NO, YES, NO, YES), (("same", A, ZERO), ("cell", A), ("same", C, ZERO), ("same", C, A)),
                   ("deep", None, ((A, B, C),), (("f", 0),), None, 0), turns=2)

    def test_calls(self):
        program = parse("procedure g(a, b) { c = new(b, a); a = a.first; return c; } "
                        "procedure f(x) { y = g(x, 3); z = g(x, y); return z; }")
        cells = ((A, B, C), (new(0), num(3), A), (new(1), new(0), A))
        self.gives(program, (NO, YES), (("same", A, ZERO), ("cell", A)),
                   ("return", new(1), cells, (), None, 2), depth=2)
        self.gives(program, (NO, NO), (("same", A, ZERO), ("cell", A)),
                   ("missing", None, ((new(0), num(3), A),), (("f", 0), ("g", 1)), A, 1), depth=2)
        self.gives(program, (YES,), (("same", A, ZERO),),
                   ("null", None, ((new(0), num(3), A),), (("f", 0), ("g", 1)), None, 1), depth=2)
        self.gives(program, (), (), ("deep", None, (), (("f", 0),), None, 0), depth=1)

    def test_actual_terms(self):
        program = one("if x = y { z = 1; } else { z = 2; }", "z")
        self.gives(program, (), (), ("return", num(1), (), (), None, 0), actual=(B, B))
        self.gives(program, (), (), ("return", num(2), (), (), None, 0), actual=(num(3), num(4)))
        self.gives(program, (YES,), (("same", num(3), A),), ("return", num(1), (), (), None, 0), actual=(num(3), A))


class Several(Unknown):
    """Runs one behind the other on the same unknown start."""

    def test_the_start_is_as_it_was(self):
        asker = Asker(1, (NO, YES))
        freeing, loading = one("free x;", "0", "x"), one("y = x.first;", "y", "x")
        storing = one("x.first = 5; y = x.first;", "y", "x")
        self.exact(run_unknown(asker, freeing, "f", (A,), 1, 0), ("return", ZERO, (), (), None, 0))
        self.exact(run_unknown(asker, loading, "f", (A,), 1, 0), ("return", B, ((A, B, C),), (), None, 0))
        self.exact(run_unknown(asker, storing, "f", (A,), 1, 0), ("return", num(5), ((A, num(5), C),), (), None, 0))
        self.exact(run_unknown(asker, loading, "f", (A,), 1, 0), ("return", B, ((A, B, C),), (), None, 0))
        self.exact(run_unknown(asker, freeing, "f", (A,), 1, 0), ("return", ZERO, (), (), None, 0))
        self.exact((asker.taken, asker.many, asker.cells), (2, 3, ((A, B, C),)))

    def test_cells_that_another_run_has_come_to_know_are_there(self):
        asker = Asker(2, (NO, YES, NO, NO, YES))
        run_unknown(asker, one("z = x.first; z = y.first;"), "f", (A, B), 1, 0)
        self.exact(run_unknown(asker, one("free y;"), "f", (A, B), 1, 0),
                   ("return", ZERO, ((A, C, D),), (), None, 0))
        self.exact(run_unknown(asker, one(""), "f", (A, B), 1, 0),
                   ("return", ZERO, ((A, C, D), (B, E, F)), (), None, 0))
        self.exact(asker.taken, 5)

    def test_facts_and_known_words_go_on(self):
        asker = Asker(2, (NO, YES, YES, NO, NO, YES))
        first = run_unknown(asker, one("z = x.first; if z = 0 { z = 1; }", "z"), "f", (A, B), 1, 0)
        self.exact(first, ("return", num(1), ((A, C, D),), (), None, 0))
        second = run_unknown(asker, one("z = x.first; u = y.first; if z = 0 { z = u; }", "z"), "f", (A, B), 1, 0)
        self.exact(second, ("return", E, ((A, C, D), (B, E, F)), (), None, 0))
        self.exact((asker.taken, asker.many, asker.pairs), (6, 6, ((A, ZERO), (B, ZERO), (B, A))))

    def test_new_addresses_begin_anew(self):
        asker = Asker(1, ())
        for _ in range(2):
            self.exact(run_unknown(asker, one("y = new(x, x);", "y", "x"), "f", (A,), 1, 0),
                       ("return", new(0), ((new(0), A, A),), (), None, 1))

    def test_explored(self):
        freeing, loading = one("free x;", "0", "x"), one("y = x.first;", "y", "x")

        def both(asker):
            return [run_unknown(asker, program, "f", (A,), 1, 0)[0] for program in (freeing, loading)]
        self.exact([(answers, value) for answers, _, value in explore(both, 1)], [
            ((YES,), ["null", "null"]), ((NO, YES), ["return", "return"]), ((NO, NO), ["missing", "missing"])])


class TrueWords(Unknown):
    """The run ends as that of the machine, if the questions are answered as the true words are."""

    def truth(self, actual, heap, news):
        """What tells the word of a term; the words of the known ones that are fields are told by the asker's cells."""
        cells = {cell[0]: cell for cell in heap}

        def word(term, asker):
            if term[0] == "num":
                return term[1]
            if term[0] == "new":
                return news + term[1]
            if term[1] < len(actual):
                return actual[term[1]]
            number, field = divmod(term[1] - len(actual), 2)
            return cells[word(asker.cells[number][0], asker)][1 + field]
        return word

    def answered(self, program, name, actual, heap, depth, turns):
        word = self.truth(actual, heap, first_new(actual, heap))
        terms = tuple(known(number) for number in range(len(actual)))
        answers = ()
        while True:
            asker = Asker(len(actual), answers)
            try:
                return asker, word, run_unknown(asker, program, name, terms, depth, turns)
            except Asked as asked:
                question = asked.question
                for term in question[1:]:
                    self.assertEqual(asker.stands(term), term)
                if question[0] == "same":
                    answers += (word(question[1], asker) == word(question[2], asker),)
                else:
                    answers += (word(question[1], asker) in [cell[0] for cell in heap],)

    def check_run(self, program, name, actual, heap, depth, turns):
        note = (name, actual, heap, depth, turns)
        asker, word, (end, result, cells, where, at, news) = self.answered(program, name, actual, heap, depth, turns)
        outcome = run(program, name, actual, heap, depth, turns)
        self.assertEqual((end, where), (outcome[0], outcome[3]), note)
        told = tuple(sorted(tuple(word(term, asker) for term in cell) for cell in cells))
        asked = [word(cell[0], asker) for cell in asker.cells]
        self.assertEqual(len(set(asked)), len(asked), note)
        if end == "return":
            self.assertEqual(word(result, asker), outcome[1], note)
            rest = tuple(cell for cell in heap if cell[0] not in asked)
            self.assertEqual(tuple(sorted(told + rest)), outcome[2], note)
        else:
            self.assertIsNone(result)
        self.assertEqual(at is not None, end == "missing", note)
        if at is not None:
            self.assertNotIn(word(at, asker), [cell[0] for cell in heap])
        for a, b in asker.pairs:
            self.assertNotEqual(word(a, asker), word(b, asker), note)
        for term in asker.absent:
            self.assertNotIn(word(term, asker), [cell[0] for cell in heap], note)
        return end

    def test_samples(self):
        ends = {}
        for seed, (name, depth, turns) in enumerate(SAMPLES):
            drawer = Drawer(seed)
            many = {procedure[1]: len(procedure[2]) for procedure in PROGRAM}[name]
            for _ in range(60):
                end = self.check_run(PROGRAM, name, drawer.words(many), drawer.heap(), depth, turns)
                ends[end] = ends.get(end, 0) + 1
        for end in ("return", "missing", "null", "freed", "deep"):
            self.assertGreater(ends[end], 10, end)

    def test_drawn(self):
        ends = {}
        for seed in range(300):
            drawer = Drawer(seed, 9)
            program = drawer.program()
            _, name, parameters, _, _ = program[-1]
            for _ in range(6):
                end = self.check_run(program, name, drawer.words(len(parameters)), drawer.heap(),
                                     drawer.random.randint(1, 3), drawer.random.randint(0, 3))
                ends[end] = ends.get(end, 0) + 1
        for end in ("return", "missing", "null", "freed", "deep"):
            self.assertGreater(ends[end], 10, end)


class Roads(Unknown):
    """Both roads lead to the same contracts, but for the orders of pairs, of their terms and of given cells."""

    def leaf(self, asker, value, many):
        end, result, cells, where, at, news = value

        def told(things):
            return tuple(self.term(asker, thing) if isinstance(thing[0], str) else told(thing) for thing in things)
        path = ("path", told([known(number) for number in range(many)]), told(asker.cells),
                told((at,)) if end == "missing" else (), told(asker.pairs), told(cells), (), asker.many, news,
                None if end == "return" else end, where)
        return put_in_order(path, None if result is None else self.term(asker, result))

    def term(self, asker, term):
        standing = asker.stands(term)
        return ("var", standing[1]) if standing[0] == "known" else standing

    def loose(self, contract):
        return contract[:4] + (frozenset(frozenset(pair) for pair in contract[4]),) + contract[5:7] \
            + (frozenset(contract[7]),) + contract[8:]

    def check_roads(self, program, name, depth, turns):
        many = {procedure[1]: len(procedure[2]) for procedure in program}[name]
        terms = tuple(known(number) for number in range(many))
        try:
            found = contracts(program, name, depth, turns)
        except TooMany:
            return 0
        leaves = [self.leaf(asker, value, many) for _, asker, value in explore(
            lambda asker: run_unknown(asker, program, name, terms, depth, turns), many)]
        self.assertEqual(len(leaves), len(found), (name, depth, turns))
        self.assertEqual({self.loose(leaf) for leaf in leaves}, {self.loose(contract) for contract in found})
        return len(found)

    def test_samples(self):
        for name, depth, turns in SAMPLES:
            self.assertGreater(self.check_roads(PROGRAM, name, depth, turns), 0)

    def test_drawn(self):
        sizes = set()
        for seed in range(800):
            drawer = Drawer(seed, 10)
            program = drawer.program()
            sizes.add(self.check_roads(program, program[-1][1], drawer.random.randint(1, 4),
                                       drawer.random.randint(0, 3)))
        self.assertGreater(len(sizes), 20)


if __name__ == "__main__":
    unittest.main()

import itertools
import unittest

from heappacts.asking import Asked, Asker, explore
from heappacts.errors import HeappactsError, TooMany
from helpers import Case, new, num

ZERO = num(0)


def known(number):
    return ("known", number)


A, B, C, D, E, F = (known(number) for number in range(6))
YES, NO = True, False


class Asking(Case):
    def asker(self, count, *answers):
        return Asker(count, tuple(answers))

    def asks(self, question, work, *given):
        """The work lacks the answer to just this question."""
        with self.assertRaises(Asked) as caught:
            work(*given)
        self.exact(caught.exception.question, question)

    def without_asking(self, asker, expected, work, *given):
        before = self.fields(asker)
        self.exact(work(*given), expected, given)
        self.exact(self.fields(asker), before)

    def fields(self, asker):
        return (asker.many, asker.taken, asker.cells, asker.absent, asker.pairs)


class Errors(Asking):
    def test_asked_is_none_of_the_errors(self):
        self.assertTrue(issubclass(Asked, Exception))
        self.assertFalse(issubclass(Asked, (HeappactsError, ValueError)))


class Start(Asking):
    def test_fields(self):
        for count in range(5):
            self.exact(self.fields(self.asker(count, YES, NO)), (count, 0, (), (), ()))

    def test_the_question_is_asked_where_an_answer_lacks(self):
        asker = self.asker(2)
        self.asks(("same", A, B), asker.same, A, B)
        self.asks(("same", B, A), asker.same, B, A)
        self.asks(("cell", B), asker.cell, B)
        self.exact(self.fields(asker), (2, 0, (), (), ()))

    def test_answers_are_taken_in_order(self):
        asker = self.asker(4, NO, YES, NO, YES)
        self.exact([asker.same(A, B), asker.same(A, C), asker.cell(B), asker.cell(A)],
                   [False, True, None, (known(4), known(5))])
        self.exact(self.fields(asker), (6, 4, ((A, known(4), known(5)),), (B,), ((A, B),)))
        self.asks(("same", A, D), asker.same, C, D)


class Same(Asking):
    def test_what_is_certain_at_the_start(self):
        asker = self.asker(2)
        for term in (A, B, ZERO, num(7), new(0)):
            self.without_asking(asker, True, asker.same, term, term)
            self.without_asking(asker, False, asker.unlike, term, term)
        for a, b in ((ZERO, num(1)), (num(98), num(99)), (new(0), new(1)), (new(0), A), (new(3), ZERO), (new(0), num(7))):
            self.without_asking(asker, False, asker.same, a, b)
            self.without_asking(asker, False, asker.same, b, a)
            self.without_asking(asker, True, asker.unlike, a, b)
            self.without_asking(asker, True, asker.unlike, b, a)

    def test_what_is_not_certain_at_the_start(self):
        asker = self.asker(2)
        for a, b in ((A, B), (B, A), (A, ZERO), (num(7), B)):
            self.exact(asker.unlike(a, b), False)
            self.asks(("same", a, b), asker.same, a, b)

    def test_yes(self):
        asker = self.asker(3, YES)
        self.exact(asker.same(B, A), True)
        self.exact(self.fields(asker), (3, 1, (), (), ()))
        self.without_asking(asker, True, asker.same, A, B)
        self.without_asking(asker, True, asker.same, B, A)
        self.without_asking(asker, False, asker.unlike, A, B)
        self.asks(("same", A, C), asker.same, B, C)
        self.asks(("same", C, A), asker.same, C, B)

    def test_no(self):
        asker = self.asker(3, NO)
        self.exact(asker.same(B, A), False)
        self.exact(self.fields(asker), (3, 1, (), (), ((B, A),)))
        self.without_asking(asker, False, asker.same, A, B)
        self.without_asking(asker, False, asker.same, B, A)
        self.without_asking(asker, True, asker.unlike, A, B)
        self.asks(("same", A, C), asker.same, A, C)

    def test_words_that_are_the_same_as_others(self):
        asker = self.asker(4, YES, YES)
        asker.same(A, B)
        asker.same(C, B)
        for a, b in itertools.product((A, B, C), repeat=2):
            self.without_asking(asker, True, asker.same, a, b)
        self.asks(("same", A, D), asker.same, C, D)

    def test_unlike_words_that_are_the_same_as_others(self):
        asker = self.asker(4, NO, YES, YES)
        asker.same(D, B)
        asker.same(D, C)
        asker.same(B, A)
        for a, b in itertools.product((A, B), (C, D)):
            self.without_asking(asker, False, asker.same, a, b)
            self.without_asking(asker, True, asker.unlike, b, a)
        # the pair stays as it was asked
        self.exact(self.fields(asker), (4, 3, (), (), ((D, B),)))

    def test_a_constant_among_them(self):
        asker = self.asker(3, YES, YES)
        asker.same(A, num(7))
        self.without_asking(asker, False, asker.same, A, ZERO)
        self.without_asking(asker, False, asker.same, new(0), A)
        asker.same(A, B)
        self.without_asking(asker, True, asker.same, B, num(7))
        self.without_asking(asker, False, asker.same, num(8), B)
        self.asks(("same", num(7), C), asker.same, B, C)

    def test_pairs_as_they_were_asked(self):
        asker = self.asker(4, YES, NO, NO, YES, NO)
        asker.same(A, num(3))
        asker.same(B, A)
        asker.same(C, B)
        asker.same(C, D)
        self.without_asking(asker, False, asker.same, D, B)
        asker.same(num(5), D)
        self.exact(asker.pairs, ((B, num(3)), (C, B), (num(5), C)))


class Stands(Asking):
    def test_what_stands_for_itself(self):
        asker = self.asker(2)
        for term in (A, B, ZERO, num(7), new(0), new(5)):
            self.without_asking(asker, term, asker.stands, term)

    def test_the_least_number(self):
        for order in itertools.permutations(range(4)):
            asker = self.asker(4, YES, YES, YES)
            for a, b in zip(order, order[1:]):
                asker.same(known(a), known(b))
            self.exact([asker.stands(known(k)) for k in range(4)], [A] * 4)
        asker = self.asker(5, YES, YES)
        asker.same(E, C)
        asker.same(D, B)
        self.exact([asker.stands(known(k)) for k in range(5)], [A, B, C, B, C])

    def test_the_constant(self):
        for pairs in (((A, B), (B, num(7))), ((num(7), A), (B, A)), ((B, num(7)), (num(7), A)), ((B, A), (num(7), A))):
            asker = self.asker(3, YES, YES)
            for a, b in pairs:
                asker.same(a, b)
            self.exact([asker.stands(term) for term in (A, B, C, num(7))], [num(7), num(7), C, num(7)])


class Cells(Asking):
    def test_yes(self):
        asker = self.asker(1, YES)
        self.exact(asker.cell(A), (B, C))
        self.exact(self.fields(asker), (3, 1, ((A, B, C),), (), ()))

    def test_the_same_cell_asked_twice(self):
        asker = self.asker(2, YES, YES)
        self.exact(asker.cell(B), (C, D))
        self.without_asking(asker, (C, D), asker.cell, B)
        asker.same(A, B)
        self.without_asking(asker, (C, D), asker.cell, A)
        self.without_asking(asker, (C, D), asker.cell, B)
        self.exact([asker.stands(term) for term in asker.cells[0]], [A, C, D])

    def test_no(self):
        asker = self.asker(2, NO, YES)
        self.exact(asker.cell(B), None)
        self.exact(self.fields(asker), (2, 1, (), (B,), ()))
        self.without_asking(asker, None, asker.cell, B)
        asker.same(B, A)
        self.without_asking(asker, None, asker.cell, A)
        self.exact(asker.absent, (B,))

    def test_no_again_and_again(self):
        asker = self.asker(3, NO, NO, NO, NO)
        for word in (C, num(7), A, B):
            self.exact(asker.cell(word), None)
        self.exact(self.fields(asker), (3, 4, (), (C, num(7), A, B), ()))

    def test_none_at_0_and_at_new_addresses(self):
        asker = self.asker(2, YES)
        self.without_asking(asker, None, asker.cell, ZERO)
        self.without_asking(asker, None, asker.cell, new(0))
        asker.same(B, ZERO)
        self.without_asking(asker, None, asker.cell, B)

    def test_the_question_has_the_word_that_stands(self):
        asker = self.asker(3, YES)
        asker.same(C, B)
        self.asks(("cell", B), asker.cell, C)
        asker = self.asker(3, YES, YES)
        asker.same(C, B)
        self.exact(asker.cell(C), (D, E))
        self.exact([asker.stands(term) for term in asker.cells[0]], [B, D, E])
        asker = self.asker(2, YES)
        asker.same(A, num(7))
        self.asks(("cell", num(7)), asker.cell, A)

    def test_two_cells(self):
        asker = self.asker(2, YES, NO, YES)
        asker.cell(B)
        asker.same(A, B)
        self.exact(asker.cell(A), (E, F))
        self.exact(self.fields(asker), (6, 3, ((B, C, D), (A, E, F)), (), ((A, B),)))
        self.without_asking(asker, (C, D), asker.cell, B)

    def test_addresses_of_two_cells_are_unlike(self):
        asker = self.asker(2, YES, YES)
        asker.cell(A)
        asker.cell(B)
        self.without_asking(asker, False, asker.same, A, B)
        self.without_asking(asker, True, asker.unlike, B, A)
        self.asks(("same", known(2), known(4)), asker.same, known(2), known(4))

    def test_an_address_and_0_are_unlike(self):
        asker = self.asker(2, YES)
        asker.cell(A)
        for a, b in ((A, ZERO), (ZERO, A)):
            self.without_asking(asker, False, asker.same, a, b)
            self.without_asking(asker, True, asker.unlike, a, b)
        self.asks(("same", B, ZERO), asker.same, B, ZERO)
        self.asks(("same", A, num(1)), asker.same, A, num(1))
        self.asks(("same", C, ZERO), asker.same, C, ZERO)

    def test_an_address_and_a_word_at_which_there_is_none_are_unlike(self):
        asker = self.asker(3, YES, NO)
        asker.cell(B)
        asker.cell(C)
        for a, b in ((B, C), (C, B)):
            self.without_asking(asker, False, asker.same, a, b)
            self.without_asking(asker, True, asker.unlike, a, b)
        # two words at which there is none, and one of them and 0, may be the same
        self.asks(("same", C, A), asker.same, C, A)
        self.asks(("same", C, ZERO), asker.same, C, ZERO)

    def test_it_holds_for_words_that_are_the_same_as_them(self):
        asker = self.asker(5, YES, NO, YES, YES, YES)
        asker.cell(C)
        asker.cell(D)
        asker.same(C, A)
        asker.same(B, D)
        for a, b in itertools.product((A, C), (B, D)):
            self.without_asking(asker, False, asker.same, a, b)
        self.without_asking(asker, False, asker.same, A, ZERO)
        self.without_asking(asker, None, asker.cell, B)
        self.without_asking(asker, (known(5), known(6)), asker.cell, A)
        asker.cell(E)
        self.without_asking(asker, False, asker.same, E, C)
        self.without_asking(asker, True, asker.unlike, D, E)

    def test_0_stands_for_a_word_at_which_there_is_none(self):
        asker = self.asker(2, NO, YES, YES)
        asker.cell(A)
        asker.same(A, ZERO)
        self.exact(asker.stands(A), ZERO)
        asker.cell(B)
        self.without_asking(asker, True, asker.unlike, A, B)

    def test_fields_are_words_as_others(self):
        asker = self.asker(1, YES, NO, NO, YES)
        first, second = asker.cell(A)
        asker.same(first, ZERO)
        asker.same(first, A)
        self.exact(asker.cell(first), (D, E))
        self.exact(self.fields(asker), (5, 4, ((A, B, C), (B, D, E)), (), ((B, ZERO), (B, A))))
        self.exact(second, C)

    def test_nothing_handed_in_is_changed(self):
        answers = (YES, NO, YES)
        asker = Asker(2, answers)
        asker.cell(A)
        asker.same(A, B)
        self.exact(answers, (YES, NO, YES))
        other = Asker(2, answers)
        self.exact(self.fields(other), (2, 0, (), (), ()))


class Exploring(Asking):
    def ways(self, work, count):
        found = explore(work, count)
        self.exact(type(found), tuple)
        for answers, asker, _ in found:
            self.assertIsInstance(asker, Asker)
            self.exact(asker.taken, len(answers))
        return [(answers, value) for answers, _, value in found]

    def test_nothing_to_ask(self):
        self.exact(self.ways(lambda asker: "done", 2), [((), "done")])
        self.exact(self.ways(lambda asker: asker.same(A, A), 1), [((), True)])
        self.exact(self.ways(lambda asker: None, 0), [((), None)])
        self.exact(explore(lambda asker: asker.many, 3)[0][2], 3)

    def test_yes_before_no(self):
        self.exact(self.ways(lambda asker: asker.same(A, B), 2), [((True,), True), ((False,), False)])
        self.exact(self.ways(lambda asker: (asker.same(A, B), asker.same(C, D)), 4), [
            ((True, True), (True, True)), ((True, False), (True, False)),
            ((False, True), (False, True)), ((False, False), (False, False))])

    def test_questions_that_hang_on_answers(self):
        def work(asker):
            if asker.same(A, ZERO):
                return "null"
            fields = asker.cell(A)
            if fields is None:
                return "missing"
            return asker.same(fields[0], A) or asker.same(A, fields[1])
        self.exact(self.ways(work, 1), [
            ((True,), "null"), ((False, True, True), True), ((False, True, False, True), True),
            ((False, True, False, False), False), ((False, False), "missing")])

    def test_only_where_it_is_not_certain(self):
        def work(asker):
            return (asker.same(A, B), asker.same(B, C), asker.same(A, C))
        self.exact(self.ways(work, 3), [
            ((True, True), (True, True, True)), ((True, False), (True, False, False)),
            ((False, True), (False, True, False)), ((False, False, True), (False, False, True)),
            ((False, False, False), (False, False, False))])

    def test_the_asker_of_each_way(self):
        found = explore(lambda asker: asker.cell(A) if not asker.same(A, B) else asker.cell(B), 2)
        self.exact([(answers, self.fields(asker)) for answers, asker, _ in found], [
            ((True, True), (4, 2, ((A, C, D),), (), ())),
            ((True, False), (2, 2, (), (A,), ())),
            ((False, True), (4, 2, ((A, C, D),), (), ((A, B),))),
            ((False, False), (2, 2, (), (A,), ((A, B),)))])

    def ask_many(self, many):
        """A work with so many ways, whose value is the number of the way."""
        def work(asker):
            left, before = many, 0
            while left > 1:
                if asker.same(known(asker.taken), num(1)):
                    left = left // 2
                else:
                    before, left = before + left // 2, left - left // 2
            return before
        return work

    def test_1500_ways_and_1501(self):
        found = explore(self.ask_many(1500), 20)
        self.exact([value for _, _, value in found], list(range(1500)))
        self.fault(TooMany, {}, explore, self.ask_many(1501), 20)

    def test_a_work_without_end(self):
        def first_yes(asker):
            number = 1
            while asker.same(known(number), ZERO):
                number += 1

        def first_no(asker):
            number = 1
            while not asker.same(known(number), ZERO):
                number += 1
        for work in (first_yes, first_no):
            self.fault(TooMany, {}, explore, work, 1)


if __name__ == "__main__":
    unittest.main()

"""The judge of trees of questions, whoever made them. It finds nothing itself."""

from heappacts.applying import fits, promised
from heappacts.asking import Asker
from heappacts.checking import procedure_of
from heappacts.instances import Instance
from heappacts.machine import Run, first_new
from heappacts.shapes import is_contract, is_kind, is_question, is_word_there
from heappacts.terms import ZERO, words_of
from heappacts.walking import known_words


def judge(program, name, depth, turns, tree):
    """Whether the tree is right for the procedure with these limits."""
    return Judge(program, name, depth, turns).refused(tree, 1) == ()


def faults_of(program, name, depth, turns, tree):
    """A tuple of (answers, reason) for the leaves that are refused, from the left to the right."""
    return Judge(program, name, depth, turns).refused(tree, None)


class Judge:
    """Looks at the leaves of a tree one after another."""

    def __init__(self, program, name, depth, turns):
        self.program = program
        self.name = name
        self.depth = depth
        self.turns = turns
        self.actual = known_words(0, len(procedure_of(program, name)[2]))

    def refused(self, tree, most):
        """A tuple of (answers, reason) for the first leaves that are refused, for all if most is None."""
        found = []
        # with each node the facts before it, None behind a question that has not its shape,
        # and whether the last answer on the way to it cannot be given
        waiting = [(tree, (), Asker(len(self.actual), ()), False)]
        while waiting:
            node, answers, asker, cannot = waiting.pop()
            if is_question(node):
                waiting.extend(behind(node, answers, asker, cannot))
            else:
                reason = self.fault(node, asker, cannot)
                if reason is not None:
                    found.append((answers, reason))
            if len(found) == most:
                break
        return tuple(found)

    def fault(self, leaf, asker, cannot):
        """The reason for which what is no question is refused as a leaf, None if it is taken."""
        never = is_kind(leaf, "never", 1)
        if asker is None or (cannot and not never):
            return "shape"
        if never:
            return None if cannot else "possible"
        if not (is_kind(leaf, "leaf", 2) and is_contract(leaf[1])):
            return "shape"
        return self.wrong(leaf[1], asker)

    def wrong(self, contract, asker):
        """What is wrong with the contract of a leaf, None if nothing is."""
        instance = Instance(asker)
        actual, heap = instance.words(self.actual), instance.heap()
        run = Run(self.program, self.name, actual, heap, depth=self.depth, turns=self.turns)
        first = first_new(actual, heap)
        words = told_words(contract, actual, heap, first)
        if words is None:
            return "applies"
        if not are_said(contract, words, instance, first):
            return "conditions"
        outcome = run.finish()
        if not is_promised(contract, words, actual, heap, outcome, run.look()[3] - first):
            return "outcome"
        if not all([is_answered(question, instance) for question in run.questions]):
            return "question"
        return None


def behind(node, answers, asker, cannot):
    """A list of what waits behind a question, the no first."""
    if asker is None or cannot or not is_shaped(node, asker):
        return [(node[-1], answers + (False,), None, False), (node[-2], answers + (True,), None, False)]
    yes, no = asker.forked(True), asker
    cannot_be = tell(node, yes, no)
    return [(node[-1], answers + (False,), no, False), (node[-2], answers + (True,), yes, cannot_be)]


def is_shaped(node, asker):
    """Whether a question is one that can be asked behind these facts."""
    if not all([is_word_there(word, asker.many) for word in node[1:-2]]):
        return False
    if node[0] == "same":
        return asker.stands(node[1]) != asker.stands(node[2])
    return all([asker.unlike(node[1], cell[0]) for cell in asker.cells])


def tell(node, yes, no):
    """Let the facts behind the two answers of a question say what they are; whether the yes cannot be given."""
    word = yes.stands(node[1])
    if node[0] == "same":
        other = yes.stands(node[2])
        cannot = yes.unlike(word, other)
        if not cannot:
            yes.unite(word, other)
        no.part(word, other)
    else:
        cannot = yes.is_without(word)
        if not cannot:
            yes.learn(word)
        no.lack(word)
    return cannot


def told_words(contract, actual, heap, news):
    """A dict of words for variables for which the contract applies; None if it does not.

    Variables that neither the arguments nor needed cells tell are not in it; a needed
    cell whose address is not told could be any one of a heap, so that is refused too.
    """
    arguments, needs, absent, differ = contract[1:5]
    table = {}
    if len(arguments) != len(actual) or not fits(arguments, actual, table, news):
        return None
    if not fit_in_any_order(needs, table, heap, news):
        return None
    there = [cell[0] for cell in heap]
    if any([is_told(term, table) and words_of(term, table, news) in there for term in absent]):
        return None
    if any([are_same(a, b, table, news) for a, b in differ]):
        return None
    return table


def fit_in_any_order(needs, table, heap, news):
    """Whether the needed cells are cells of the heap at different addresses."""
    cells = {cell[0]: cell for cell in heap}
    left = needs
    while left:
        told = [cell for cell in left if is_told(cell[0], table)]
        left = [cell for cell in left if not is_told(cell[0], table)]
        for cell in told:
            address = words_of(cell[0], table, news)
            if address not in cells or not fits(cell, cells[address], table, news):
                return False
            # no second needed cell can be at this address
            del cells[address]
        if not told:
            return False
    return True


def is_told(term, table):
    """Whether the word of the term is told."""
    return term[0] != "var" or term[1] in table


def are_told(terms, table):
    """Whether the words of all of the terms are told."""
    return all([is_told(term, table) for term in terms])


def are_same(a, b, table, news):
    """Whether two terms surely are the same word."""
    return a == b or (are_told((a, b), table) and words_of(a, table, news) == words_of(b, table, news))


def are_said(contract, words, instance, news):
    """Whether the facts say that the pairs are unlike, and that no cell is at the absent addresses."""
    asker = instance.asker
    for a, b in contract[4]:
        if not are_told((a, b), words):
            return False
        if not asker.unlike(instance.term(words_of(a, words, news)), instance.term(words_of(b, words, news))):
            return False
    for term in contract[3]:
        if not (is_told(term, words) and asker.is_without(instance.term(words_of(term, words, news)))):
            return False
    return True


def is_promised(contract, words, actual, heap, outcome, news):
    """Whether the contract promises this outcome, and so many new addresses."""
    if contract[5] != "return":
        return promised(contract, actual, heap, words) == outcome
    result, gives = contract[6:8]
    if result is None or not are_told((result,), words) or not all([are_told(cell, words) for cell in gives]):
        return False
    return contract[9] == news and promised(contract, actual, heap, words) == outcome


def is_answered(question, instance):
    """Whether the facts say the answer that a question of the machine has."""
    asker = instance.asker
    word = instance.term(question[1])
    if question[0] == "same":
        return question[3] or asker.unlike(word, instance.term(question[2]))
    if question[0] == "null":
        return question[2] or asker.unlike(word, ZERO)
    return question[2] != "missing" or asker.is_without(word)

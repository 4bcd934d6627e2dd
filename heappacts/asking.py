"""Words that are not known, and questions about them."""

from heappacts.errors import TooMany
from heappacts.terms import ZERO, certainly_unlike

MOST_WAYS = 1500


class Asked(Exception):
    """A question for which there is no answer."""

    def __init__(self, question):
        super().__init__("a question without an answer")
        self.question = question


class Asker:
    """What is known of words, from the answers to the questions that were asked of them."""

    def __init__(self, count, answers):
        self.answers = answers
        self.many = count
        self.taken = 0
        self.cells = ()
        self.absent = ()
        self.pairs = ()
        # the word by which a known word, by its number, was replaced
        self.table = {}
        # by the words that stand: the number of the cell there, that there is none,
        # and that the two words of a pair are unlike
        self.places = {}
        self.without = {}
        self.apart = {}

    def same(self, a, b):
        """Whether two words are the same; asks where it is not certain."""
        left, right = self.stands(a), self.stands(b)
        if left == right:
            return True
        if self.unlike(left, right):
            return False
        if self.answer(("same", left, right)):
            self.unite(left, right)
            return True
        self.part(left, right)
        return False

    def cell(self, a):
        """The fields of the cell at a word, None if there is none; asks where it is not certain."""
        word = self.stands(a)
        if word in self.places:
            return self.cells[self.places[word]][1:]
        if word == ZERO or word[0] == "new" or word in self.without:
            return None
        if self.answer(("cell", word)):
            return self.learn(word)
        self.lack(word)
        return None

    def stands(self, a):
        """The word that stands for the word."""
        while a[0] == "known" and a[1] in self.table:
            a = self.table[a[1]]
        return a

    def unlike(self, a, b):
        """Whether it is certain that two words are unlike."""
        left, right = self.stands(a), self.stands(b)
        if (left, right) in self.apart or certainly_unlike(left, right, self.places):
            return True
        return (left in self.places and right in self.without) or (left in self.without and right in self.places)

    def answer(self, question):
        """The next answer."""
        if self.taken >= len(self.answers):
            raise Asked(question)
        self.taken += 1
        return self.answers[self.taken - 1]

    def part(self, a, b):
        """Keep that two words, which stand for themselves, are unlike."""
        self.pairs = self.pairs + ((a, b),)
        self.apart[(a, b)] = True
        self.apart[(b, a)] = True

    def unite(self, a, b):
        """Let one of two words, which stand for themselves, stand for both."""
        old, kept = a, b
        if b[0] == "known" and (a[0] != "known" or a[1] < b[1]):
            old, kept = b, a
        self.table[old[1]] = kept
        if old in self.places:
            self.places[kept] = self.places.pop(old)
        if old in self.without:
            self.without[kept] = self.without.pop(old)
        for left, right in list(self.apart):
            if left == old:
                self.apart[(kept, right)] = True
                self.apart[(right, kept)] = True

    def learn(self, word):
        """Keep that a cell is at the word, which stands for itself; its fields."""
        fields = (("known", self.many), ("known", self.many + 1))
        self.many += 2
        self.places[word] = len(self.cells)
        self.cells = self.cells + ((word,) + fields,)
        return fields

    def lack(self, word):
        """Keep that no cell is at the word, which stands for itself."""
        self.absent = self.absent + (word,)
        self.without[word] = True

    def is_without(self, a):
        """Whether it is certain that no cell is at the word."""
        word = self.stands(a)
        return word == ZERO or word in self.without

    def forked(self, answer):
        """The same facts in an asker of their own, with one more answer to come."""
        other = Asker(self.many, self.answers + (answer,))
        other.taken, other.cells, other.absent, other.pairs = self.taken, self.cells, self.absent, self.pairs
        other.table = {number: self.table[number] for number in self.table}
        other.places = {word: self.places[word] for word in self.places}
        other.without = {word: True for word in self.without}
        other.apart = {pair: True for pair in self.apart}
        return other


def explore(work, count):
    """A tuple of (answers, asker, value) for all ways to answer the questions of the work."""
    found = []
    waiting = [()]
    while waiting:
        answers = waiting.pop()
        asker = Asker(count, answers)
        try:
            value = work(asker)
        except Asked:
            waiting.append(answers + (False,))
            waiting.append(answers + (True,))
        else:
            found.append((answers, asker, value))
        # each way that waits leads to one or more
        if len(found) + len(waiting) > MOST_WAYS:
            raise TooMany()
    return tuple(found)

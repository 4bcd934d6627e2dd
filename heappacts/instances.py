"""The example of a way: words and a heap on which its questions have their answers."""

FIRST_WORD = 100


class Instance:
    """The words that the known words of an asker have in the example of its way."""

    def __init__(self, asker):
        self.asker = asker
        self.known = []
        # by the number of a known word that stands for itself
        self.numbers = {}
        for number in range(asker.many):
            word = ("known", number)
            if asker.stands(word) == word:
                self.numbers[number] = FIRST_WORD + len(self.known)
                self.known.append(word)

    def word(self, term):
        """The word of a constant or of a known word."""
        standing = self.asker.stands(term)
        if standing[0] == "known":
            return self.numbers[standing[1]]
        return standing[1]

    def words(self, terms):
        """A tuple of the words of the terms."""
        return tuple([self.word(term) for term in terms])

    def heap(self):
        """The cells that are there."""
        return tuple(sorted([self.words(cell) for cell in self.asker.cells]))

    def term(self, word):
        """What has this word in a run on the example: a constant, a known word or a new address."""
        if word < FIRST_WORD:
            return ("num", word)
        if word < FIRST_WORD + len(self.known):
            return self.known[word - FIRST_WORD]
        return ("new", word - FIRST_WORD - len(self.known))

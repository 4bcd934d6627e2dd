"""Composing a path with a contract: the ways to place its needed cells."""

from heappacts.joining import Joined
from heappacts.ordering import variables_in
from heappacts.paths import gone, possible, replaced_by
from heappacts.terms import shift

NOWHERE = -1


def compose(path, contract, actual):
    """A tuple of pairs (new path, result), one for each way."""
    return tuple(Placing(path, None).compose(contract, actual))


def ways(path, contract, actual):
    """A tuple of (choices, answer, freed), one for each new path."""
    placing = Placing(path, None)
    return tuple([(choices, tuple(sorted(answer.items())), freed)
                  for choices, answer, freed in placing.ways(contract, actual)])


class Placing:
    """A path that is composed with one contract after another.

    most: how many ways are looked for with each contract, None for all of them.
    """

    def __init__(self, path, most):
        self.path = path
        self.most = most
        self.is_possible = possible(path)
        self.gone = None
        self.joined = Joined(path)

    def compose(self, contract, actual):
        """A list of pairs (new path, result), one for each way."""
        return [self.composed(contract, way) for way in self.ways(contract, actual)]

    def ways(self, contract, actual):
        """A list of (choices, answer, freed), one for each new path; answer is a dict."""
        found = []

        def enough(way):
            found.append(way)
            return len(found) == self.most
        self.search(contract, actual, enough)
        return found

    def search(self, contract, actual, enough):
        """Tell the function the ways in order, until it says that they are enough; whether it did."""
        over = False
        if self.is_possible and self.begin(contract, actual):
            if self.gone is None and contract[3]:
                self.gone = gone(self.path)
            needs = [self.moved(cell) for cell in contract[2]]
            over = self.place_rest(needs, self.moved(contract[3]), (), enough)
        self.joined.take_back(0)
        return over

    def moved(self, terms):
        """A tuple of the contract's terms, numbered behind those of the path."""
        return tuple([shift(term, self.path[7], self.path[8]) for term in terms])

    def begin(self, contract, actual):
        """Make the arguments one with the actual terms, and the pairs unlike; whether that can be."""
        variables, news = self.path[7:9]
        joined = self.joined
        for term, argument in zip(actual, contract[1]):
            if not joined.settle(shift(argument, variables, news), term):
                return False
        if contract[2] or contract[3]:
            return all(joined.part(shift(a, variables, news), shift(b, variables, news)) for a, b in contract[4])
        # where nothing more is made one, a pair that is unlike now stays so
        return all(joined.stands(shift(a, variables, news)) != joined.stands(shift(b, variables, news))
                   for a, b in contract[4])

    def place_rest(self, needs, absent, choices, enough):
        """Tell all ways that begin with the choices; whether they are enough."""
        if len(choices) == len(needs):
            return self.end(absent, choices, enough)
        cell = needs[len(choices)]
        written = len(self.joined.log)
        for number, other in enumerate(self.path[5]):
            over = (number not in choices and self.unite_cells(other, cell)
                    and self.place_rest(needs, absent, choices + (number,), enough))
            self.joined.take_back(written)
            if over:
                return True
        over = self.joined.need(cell) and self.place_rest(needs, absent, choices + (NOWHERE,), enough)
        self.joined.take_back(written)
        return over

    def unite_cells(self, a, b):
        """Make two cells one; whether that can be."""
        return self.joined.unite(a[0], b[0]) and self.joined.unite(a[1], b[1]) and self.joined.unite(a[2], b[2])

    def end(self, absent, choices, enough):
        """Tell the ways with all of the choices, one for each place of the absent address; whether they are enough."""
        written = len(self.joined.log)
        for address in absent:
            for number, other in enumerate(self.gone):
                over = self.joined.unite(other, address) and enough((choices, self.joined.answer(), number))
                self.joined.take_back(written)
                if over:
                    return True
        if not all([self.joined.can_be_absent(address) for address in absent]):
            return False
        return enough((choices, self.joined.answer(), NOWHERE))

    def composed(self, contract, way):
        """The pair (new path, result) of one way."""
        choices, answer, freed = way
        path = self.path
        before = path if keeps(path, answer) else replaced_by(path, answer)
        stands = Standing(path, answer)
        missing = stands.rows([cell for cell, choice in zip(contract[2], choices) if choice == NOWHERE])
        absent = stands.terms(contract[3]) if freed == NOWHERE else ()
        differ, gives = stands.rows(contract[4]), stands.rows(contract[7])
        left = before[5]
        if choices:
            left = tuple([cell for number, cell in enumerate(left) if number not in choices])
        end, result = ended(contract, freed)
        if result is not None:
            result = stands.term(result)
        new_path = ("path", before[1], before[2] + missing, before[3] + absent, before[4] + differ, left + gives,
                    before[6], path[7] + variables_in(contract), path[8] + contract[9], end, contract[8])
        return new_path, result


class Standing:
    """What stands for the terms of a contract that a path was composed with."""

    def __init__(self, path, answer):
        self.variables = path[7]
        self.news = path[8]
        self.table = answer
        self.known = {}

    def term(self, term):
        """What stands for the term."""
        if term not in self.known:
            moved = shift(term, self.variables, self.news)
            self.known[term] = self.table.get(moved[1], moved) if moved[0] == "var" else moved
        return self.known[term]

    def terms(self, terms):
        """A tuple of what stands for the terms."""
        return tuple([self.term(term) for term in terms])

    def rows(self, rows):
        """A tuple of what stands for the cells, or for the pairs."""
        return tuple([self.terms(row) for row in rows])


def keeps(path, answer):
    """Whether the answer replaces none of the path's own variables."""
    return all([number >= path[7] for number in answer])


def ended(contract, freed):
    """The end of a new path, and the contract's result as far as it counts."""
    if freed != NOWHERE:
        return "freed", None
    if contract[5] == "return":
        return None, contract[6]
    return contract[5], contract[6]

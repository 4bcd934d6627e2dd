"""Composing a path with a contract: the ways to place its needed cells."""

from heappacts.errors import TooMany
from heappacts.joining import Joined
from heappacts.ordering import numbers_in
from heappacts.paths import gone, possible, replaced
from heappacts.terms import put, put_all, shift, shift_all

NOWHERE = -1


def compose(path, contract, actual):
    """A tuple of pairs (new path, result), one for each way."""
    return Placing(path, None).compose(contract, actual)


def ways(path, contract, actual):
    """A tuple of (choices, answer, freed), one for each new path."""
    return Placing(path, None).ways(contract, actual)


class Placing:
    """A path that is composed with one contract after another.

    most: how many ways there may be for a contract, None where any number may be.
    """

    def __init__(self, path, most):
        self.path = path
        self.most = most
        self.is_possible = possible(path)
        self.gone = gone(path)
        self.joined = Joined(path)
        self.begun = self.joined.written()

    def compose(self, contract, actual):
        """What compose gives for the path."""
        return tuple([composed(self.path, contract, way) for way in self.ways(contract, actual)])

    def ways(self, contract, actual):
        """What ways gives for the path."""
        found = []
        if self.is_possible and self.begin(contract, actual):
            needs = self.moved(contract[2])
            absent = self.moved(contract[3])
            self.place_rest(needs, absent, [], found)
        self.joined.take_back(self.begun)
        return tuple(found)

    def moved(self, things):
        """The contract's things, numbered behind those of the path."""
        return shift_all(things, self.path[7], self.path[8])

    def begin(self, contract, actual):
        """Make the arguments one with the actual terms, and the pairs unlike; whether that can be."""
        for term, argument in zip(actual, self.moved(contract[1])):
            if not self.joined.unite(term, argument):
                return False
        for a, b in self.moved(contract[4]):
            if not self.joined.part(a, b):
                return False
        return True

    def place_rest(self, needs, absent, choices, found):
        """Add all ways that begin with the choices to those that were found."""
        if len(choices) == len(needs):
            self.end(absent, tuple(choices), found)
            return
        cell = needs[len(choices)]
        written = self.joined.written()
        for number, other in enumerate(self.path[5]):
            if number not in choices and self.unite_cells(other, cell):
                self.place_rest(needs, absent, choices + [number], found)
            self.joined.take_back(written)
        if self.joined.need(cell):
            self.place_rest(needs, absent, choices + [NOWHERE], found)
        self.joined.take_back(written)

    def unite_cells(self, a, b):
        """Make two cells one; whether that can be."""
        return self.joined.unite(a[0], b[0]) and self.joined.unite(a[1], b[1]) and self.joined.unite(a[2], b[2])

    def end(self, absent, choices, found):
        """Add the ways with all of the choices, one for each place of the absent address."""
        written = self.joined.written()
        for address in absent:
            for number, other in enumerate(self.gone):
                if self.joined.unite(other, address):
                    self.add_way(choices, number, found)
                self.joined.take_back(written)
        if all([self.joined.can_be_absent(address) for address in absent]):
            self.add_way(choices, NOWHERE, found)

    def add_way(self, choices, freed, found):
        """Add one way."""
        found.append((choices, self.joined.answer(), freed))
        if self.most is not None and len(found) > self.most:
            raise TooMany()


def composed(path, contract, way):
    """The pair (new path, result) of one way."""
    choices, answer, freed = way
    variables, news = path[7:9]
    needs, absent, differ, gives = [
        put_all(shift_all(contract[part], variables, news), answer) for part in (2, 3, 4, 7)]
    before = path if keeps(path, answer) else replaced(path, answer)
    missing = tuple(cell for cell, choice in zip(needs, choices) if choice == NOWHERE)
    left = tuple(cell for number, cell in enumerate(before[5]) if number not in choices)
    end, result = ended(contract, freed)
    if result is not None:
        result = put(shift(result, variables, news), answer)
    new_path = ("path", before[1], before[2] + missing, before[3] + (absent if freed == NOWHERE else ()),
                before[4] + differ, left + gives, before[6], variables + variables_in(contract),
                news + contract[9], end, contract[8])
    return new_path, result


def keeps(path, answer):
    """Whether the answer replaces none of the path's own variables."""
    return not answer or answer[0][0] >= path[7]


def variables_in(contract):
    """How many variables it has: one more than the greatest number of one."""
    return 1 + max(numbers_in(contract), default=-1)


def ended(contract, freed):
    """The end of a new path, and the contract's result as far as it counts."""
    if freed != NOWHERE:
        return "freed", None
    if contract[5] == "return":
        return None, contract[6]
    return contract[5], contract[6]

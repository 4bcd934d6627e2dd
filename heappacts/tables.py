"""Lists of contracts, asked for those with which a path can be composed."""

from heappacts.terms import ZERO


class Table:
    """A list of contracts, most of which may be for other constants than a path has at its actual terms.

    Which ones a constant at one of the arguments leaves out is kept as a number,
    with one bit for each contract.
    """

    def __init__(self, contracts):
        self.whole = contracts
        self.barring = {}
        self.naming = {}

    def fitting(self, path, actual):
        """The contracts, in order, without those that certainly give no new path."""
        out = 0
        for place, term in enumerate(actual):
            if term[0] == "num":
                out = out | self.bits_barred(place, term)
            else:
                for constant in constants_unlike(path, term):
                    out = out | self.bits_named(place, constant)
        if out == 0:
            return self.whole
        return [contract for number, contract in enumerate(self.whole) if (out >> number) & 1 == 0]

    def bits_barred(self, place, constant):
        """The bits of the contracts of which the argument at the place cannot be the constant."""
        key = (place, constant)
        if key not in self.barring:
            self.barring[key] = bits_of([cannot_be(contract, contract[1][place], constant)
                                         for contract in self.whole])
        return self.barring[key]

    def bits_named(self, place, constant):
        """The bits of the contracts of which the argument at the place is the constant."""
        key = (place, constant)
        if key not in self.naming:
            self.naming[key] = bits_of([contract[1][place] == constant for contract in self.whole])
        return self.naming[key]


def bits_of(answers):
    """A number with a bit for each answer that is true."""
    found = 0
    for number, answer in enumerate(answers):
        if answer:
            found += 1 << number
    return found


def cannot_be(contract, argument, constant):
    """Whether the argument of the contract certainly is another word than the constant."""
    if argument[0] != "var":
        return argument != constant
    return (argument, constant) in contract[4] or (constant, argument) in contract[4]


def constants_unlike(path, term):
    """A list of constants that the term certainly is not on the path."""
    found = [b for a, b in path[4] if a == term and b[0] == "num"]
    found.extend([a for a, b in path[4] if b == term and a[0] == "num"])
    if any([cell[0] == term for cell in path[2]]):
        found.append(ZERO)
    return found

"""Whether two procedures end alike but for the names of new cells."""

from heappacts.finding import Finder
from heappacts.ordering import addresses_of
from heappacts.sameness import parted


def matched(result, cells, other_result, other_cells, roots):
    """A tuple of the pairs of new addresses that must be one and the same, None if they cannot be."""
    match = Match()
    fields, other_fields = fields_of(cells), fields_of(other_cells)
    waiting = [(result, other_result)] + [(root, root) for root in roots]
    behind = {}
    place = 0
    while place < len(waiting):
        a, b = waiting[place]
        place += 1
        if not match.meet(a, b) or (a in fields) != (b in other_fields):
            return None
        if a in fields and a not in behind:
            behind[a] = True
            waiting.extend(list(zip(fields[a], other_fields[b])))
    return tuple(match.forth.items())


def fields_of(cells):
    """A dict of the fields of the cells by their addresses."""
    return {cell[0]: cell[1:] for cell in cells}


class Match:
    """A one-to-one map of new addresses to those of another run, as far as it has been found."""

    def __init__(self):
        self.forth = {}
        self.back = {}

    def meet(self, a, b):
        """Whether the two terms can be one and the same; new addresses are from now on."""
        if a[0] != "new" or b[0] != "new":
            return a == b
        if a not in self.forth and b not in self.back:
            self.forth[a] = b
            self.back[b] = a
        return self.forth.get(a, None) == b


def alike(contract, other):
    """Whether runs to which both contracts apply are alike but for names."""
    first, second = (contract[5],) + contract[6:8], (other[5],) + other[6:8]
    return are_alike_but_for_names(first, second, contract)


def are_alike_but_for_names(first, second, path):
    """Whether two runs are so that end so, as (end, result, cells), and begin as the path or the contract does."""
    if first[0] != "return" or second[0] != "return":
        return first[0] == second[0]
    roots = path[1] + addresses_of(path[2])
    return matched(first[1], first[2], second[1], second[2], roots) is not None


def compare_named(program, name, other, depth, turns):
    """None if the runs of the two are always alike but for names; else arguments and a heap on which they are not."""
    finder = Finder(program, turns)
    return parted(finder.contracts_of(name, depth), finder.contracts_of(other, depth), are_alike_but_for_names)

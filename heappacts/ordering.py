"""Contracts put in order: pairs that say nothing left out, variables numbered anew."""

from heappacts.terms import ZERO, variables_of


def put_in_order(path, result):
    """The contract of a path that has ended, or has come to the end of the body."""
    arguments, needs, absent, differ, present = path[1:6]
    news, end, where = path[8:]
    if end is None:
        end, gives = "return", present
    else:
        result, gives, news = None, (), 0
    pairs = left_out(differ, addresses_of(needs), absent)
    return numbered_anew(("contract", arguments, needs, absent, pairs, end, result, gives, where, news))


def left_out(pairs, addresses, absent):
    """The pairs without those that certainly differ or stand earlier."""
    if not pairs:
        return ()
    there = {address: True for address in addresses}
    kept = []
    earlier = {}
    for pair in pairs:
        a, b = pair
        if pair not in earlier and not is_certain(a, b, there, absent):
            kept.append(pair)
            earlier[pair] = True
            earlier[(b, a)] = True
    return tuple(kept)


def is_certain(a, b, there, absent):
    """Whether two terms certainly differ; there: the addresses of needed cells, a dict."""
    if a != b and (a[0] == "new" or b[0] == "new" or a[0] == b[0] == "num"):
        return True
    if a != b and (a in there or a == ZERO) and (b in there or b == ZERO):
        return True
    return (a in absent and b in there) or (a in there and b in absent)


def addresses_of(cells):
    """A tuple of the addresses of the cells."""
    return tuple(cell[0] for cell in cells)


def numbers_in(contract):
    """A tuple of the numbers of its variables, in the order in which they occur first."""
    arguments, needs, absent, differ = contract[1:5]
    result, gives = contract[6:8]
    last = () if result is None else (result,)
    return variables_of(arguments + needs + absent + differ + gives + last)


def variables_in(contract):
    """How many variables it has: one more than the greatest number of one."""
    most = -1
    for part in (contract[2], contract[4], contract[7], contract[1:2], contract[3:4]):
        for terms in part:
            for term in terms:
                if term[0] == "var" and term[1] > most:
                    most = term[1]
    result = contract[6]
    if result is not None and result[0] == "var" and result[1] > most:
        most = result[1]
    return 1 + most


class Numbering:
    """Numbers variables anew, in the order in which they are met."""

    def __init__(self):
        self.table = {}

    def term(self, term):
        """The term with its new number."""
        if term[0] != "var":
            return term
        if term not in self.table:
            self.table[term] = ("var", len(self.table))
        return self.table[term]

    def terms(self, terms):
        """A tuple of the terms with their new numbers."""
        return tuple([self.term(term) for term in terms])

    def rows(self, rows):
        """A tuple of the cells, or of the pairs, with their new numbers."""
        return tuple([self.terms(row) for row in rows])


def numbered_anew(contract):
    """The contract with its variables numbered in the order in which they occur first."""
    _, arguments, needs, absent, differ, end, result, gives, where, news = contract
    numbering = Numbering()
    arguments = numbering.terms(arguments)
    needs = numbering.rows(needs)
    absent = numbering.terms(absent)
    differ = numbering.rows(differ)
    gives = numbering.rows(gives)
    if result is not None:
        result = numbering.term(result)
    return ("contract", arguments, needs, absent, differ, end, result, gives, where, news)

"""Contracts put in order: pairs that say nothing left out, variables numbered anew."""

from heappacts.terms import certainly_unlike, put, put_all, variables_of


def put_in_order(path, result):
    """The contract of a path that has ended, or has come to the end of the body."""
    arguments, needs, absent, differ, present = path[1:6]
    news, end, where = path[8:]
    if end is None:
        end, gives = "return", present
    else:
        result, gives, news = None, (), 0
    pairs = left_out(differ, addresses_of(needs), absent)
    return numbered_anew(("contract", arguments, needs, absent, pairs, end, result, gives, where, news))


def left_out(pairs, addresses, absent):
    """The pairs without those that certainly differ or stand earlier."""
    kept = []
    earlier = {}
    for a, b in pairs:
        certain = certainly_unlike(a, b, addresses) or is_cell_or_none(a, b, addresses, absent)
        if not certain and (a, b) not in earlier:
            kept.append((a, b))
        earlier[(a, b)] = True
        earlier[(b, a)] = True
    return tuple(kept)


def is_cell_or_none(a, b, addresses, absent):
    """Whether a cell is at one of the two terms, and none at the other one."""
    return (a in absent and b in addresses) or (a in addresses and b in absent)


def addresses_of(cells):
    """A tuple of the addresses of the cells."""
    return tuple(cell[0] for cell in cells)


def numbers_in(contract):
    """A tuple of the numbers of its variables, in the order in which they occur first."""
    arguments, needs, absent, differ = contract[1:5]
    result, gives = contract[6:8]
    last = () if result is None else (result,)
    return variables_of(arguments + needs + absent + differ + gives + last)


def numbered_anew(contract):
    """The contract with its variables numbered in the order in which they occur first."""
    answer = tuple((old, ("var", number)) for number, old in enumerate(numbers_in(contract)))
    parts = tuple(put_all(part, answer) for part in contract[1:5])
    result, gives = contract[6:8]
    if result is not None:
        result = put(result, answer)
    return ("contract",) + parts + (contract[5], result, put_all(gives, answer)) + contract[8:]

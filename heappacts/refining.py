"""Which procedures can stand for which others."""

from heappacts.finding import Finder
from heappacts.sameness import are_alike, parted


def stands_for(program, name, other, depth, turns):
    """None if other can stand for name; else arguments and a heap on which it cannot."""
    return not_stood_for(Finder(program, turns), name, other, depth)


def not_stood_for(finder, name, other, depth):
    """What stands_for gives."""
    returning = [contract for contract in finder.contracts_of(name, depth) if contract[5] == "return"]
    return parted(returning, finder.contracts_of(other, depth), are_alike)


def order(program, names, depth, turns):
    """A tuple of all (a, b) of the names, unlike ones, such that b can stand for a."""
    finder = Finder(program, turns)
    pairs = [(a, b) for a in names for b in names if a != b]
    return tuple([(a, b) for a, b in pairs if not_stood_for(finder, a, b, depth) is None])

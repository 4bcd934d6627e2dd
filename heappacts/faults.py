"""The faults that contracts tell."""

from heappacts.checking import listed
from heappacts.examples import reached_by
from heappacts.finding import Finder

ACCESSES = ("load", "store", "free")
NO_CELL = ("missing", "null", "freed")


def faults(contracts):
    """A tuple of (end, where, numbers of contracts) for the ends that do not return."""
    found = {}
    for number, contract in enumerate(contracts):
        if contract[5] != "return":
            found.setdefault((contract[5], contract[8]), []).append(number)
    return tuple([(end, where, tuple(numbers)) for (end, where), numbers in found.items()])


def safe(program, name, depth, turns):
    """A tuple of the places of accesses that are reached and always find their cell."""
    found = Finder(program, turns).contracts_of(name, depth)
    refused = {contract[8][-1]: True for contract in found if contract[5] in NO_CELL}
    accesses = accesses_of(program)
    places = reached_by(program, name, depth, turns, found)
    return tuple([place for place in places if place in accesses and place not in refused])


def accesses_of(program):
    """A dict of the (procedure, place) of all loads, stores and frees."""
    found = {}
    for procedure in program:
        for statement, _ in listed(procedure[3]):
            if statement[0] in ACCESSES:
                found[(procedure[1], statement[1])] = True
    return found


def returning(contracts):
    """A tuple of the numbers of the contracts that return."""
    return tuple(number for number, contract in enumerate(contracts) if contract[5] == "return")

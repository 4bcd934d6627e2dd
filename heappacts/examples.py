"""Examples of contracts: arguments and heaps to which they apply."""

from heappacts.finding import Finder
from heappacts.machine import places_of, rising
from heappacts.ordering import numbers_in
from heappacts.terms import words_of

FIRST_WORD = 100


def example(contract):
    """The arguments and the needed cells as a heap, each variable being a word of its own."""
    words = {number: FIRST_WORD + number for number in numbers_in(contract)}
    actual = tuple(words_of(term, words, 0) for term in contract[1])
    cells = [tuple(words_of(term, words, 0) for term in cell) for cell in contract[2]]
    return actual, tuple(sorted(cells))


def examples(contracts):
    """A tuple of the examples of the contracts."""
    return tuple(example(contract) for contract in contracts)


def reached(program, name, depth, turns):
    """A tuple of the (procedure, place) that the runs of all examples do, rising."""
    return reached_by(program, name, depth, turns, Finder(program, turns).contracts_of(name, depth))


def reached_by(program, name, depth, turns, contracts):
    """What reached gives, for a procedure of which the contracts are known."""
    done = {}
    for actual, heap in examples(contracts):
        for place in places_of(program, name, actual, heap, depth, turns):
            done[place] = True
    return rising(program, done)

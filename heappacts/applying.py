"""Contracts at work on arguments and heaps."""

from heappacts.machine import first_new
from heappacts.ordering import variables_in
from heappacts.terms import words_of


def words_for(contract, actual, heap):
    """A tuple of words for the contract's variables; None if it does not apply."""
    arguments, needs, absent, differ = contract[1:5]
    table = {}
    if len(actual) != len(arguments) or not fits(arguments, actual, table, 0):
        return None
    if not fit_cells(needs, table, heap):
        return None
    there = [cell[0] for cell in heap]
    if any(words_of(term, table, 0) in there for term in absent):
        return None
    if any(words_of(a, table, 0) == words_of(b, table, 0) for a, b in differ):
        return None
    return tuple([table[number] for number in range(variables_in(contract))])


def fits(terms, words, table, news):
    """Whether the terms can have the words; the words of new variables are put into the table."""
    for term, word in zip(terms, words):
        if term[0] == "var" and term[1] not in table:
            table[term[1]] = word
        elif words_of(term, table, news) != word:
            return False
    return True


def fit_cells(needs, table, heap):
    """Whether the needed cells are cells of the heap at different addresses."""
    cells = {cell[0]: cell for cell in heap}
    for cell in needs:
        address = words_of(cell[0], table, 0)
        if address not in cells or not fits(cell, cells[address], table, 0):
            return False
        # no second needed cell can be at this address
        del cells[address]
    return True


def applying(contracts, actual, heap):
    """(number, words, addresses) of the first contract that applies, None if none does."""
    for number, contract in enumerate(contracts):
        words = words_for(contract, actual, heap)
        if words is not None:
            return (number, words, tuple(words_of(cell[0], words, 0) for cell in contract[2]))
    return None


def promised(contract, actual, heap, words):
    """The outcome that the contract promises, applied with these words."""
    end, result, gives, where = contract[5:9]
    if end != "return":
        return (end, None, None, where)
    news = first_new(actual, heap)
    needed = [words_of(cell[0], words, news) for cell in contract[2]]
    cells = [cell for cell in heap if cell[0] not in needed]
    cells.extend([tuple(words_of(term, words, news) for term in cell) for cell in gives])
    word = None if result is None else words_of(result, words, news)
    return (end, word, tuple(sorted(cells)), where)

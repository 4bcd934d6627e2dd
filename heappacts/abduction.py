"""Formulas, and what one lacks to make another one true."""

from heappacts.ordering import addresses_of, left_out
from heappacts.paths import possible
from heappacts.placing import Placing
from heappacts.terms import put_all, variables_of, words_of


def abduce(have, need):
    """A tuple of solutions: what have lacks for need, and what it has left."""
    if not (can_be_true(have) and can_be_true(need)):
        return ()
    numbers = tuple(sorted(set(numbers_of(have) + numbers_of(need))))
    path = path_of(have, numbers)
    contract = contract_of(need, numbers)
    solutions = []
    placing = Placing(path, None)
    for way in placing.ways(contract, path[1]):
        new_path, _ = placing.composed(contract, way)
        solutions.append(solution_of(new_path, way[1], path))
    return tuple(solutions)


def numbers_of(formula):
    """A tuple of the numbers of the formula's variables."""
    return variables_of(formula[1] + formula[2])


def can_be_true(formula):
    """Whether the path that needs the formula's cells, and has its pairs, is possible."""
    return possible(path_of(formula, numbers_of(formula)))


def path_of(formula, numbers):
    """The path that needs the formula's cells, the variables of these numbers being its arguments."""
    _, cells, differ = formula
    arguments = tuple(("var", number) for number in numbers)
    return ("path", arguments, cells, (), differ, cells, (), 1 + max(numbers, default=-1), 0, None, ())


def contract_of(formula, numbers):
    """The contract that needs the formula's cells and gives none, its arguments named for these numbers."""
    answer = tuple((old, ("var", number)) for number, old in enumerate(numbers))
    arguments = tuple(term for _, term in answer)
    cells, differ = [put_all(part, answer) for part in formula[1:]]
    return ("contract", arguments, cells, (), differ, "return", None, (), (), 0)


def solution_of(new_path, answer, path):
    """The solution that a new path, which the answer made of the path, tells."""
    needs, differ, left = new_path[2], new_path[4], new_path[5]
    equal = tuple([(number, answer[number]) for number in sorted(answer) if number < path[7]])
    pairs = left_out(differ, addresses_of(needs), ())
    return ("solution", equal, pairs, needs[len(path[2]):], left)


def holds(formula, words, heap):
    """Whether the formula is true of the heap for the words, a tuple of (k, word)."""
    _, cells, differ = formula
    table = dict(words)
    return are_cells(cells, table, heap) and are_unlike(differ, table)


def applies(solution, have, words, heap):
    """Whether the solution, and the cells that have tells, are true of the heap for the words."""
    equal, differ, missing = solution[1:4]
    table = dict(words)
    return (are_equal(equal, table) and are_unlike(differ, table)
            and are_cells(have[1] + missing, table, heap))


def are_equal(equal, table):
    """Whether each variable has the word of its term."""
    return all(table[number] == words_of(term, table, 0) for number, term in equal)


def are_unlike(differ, table):
    """Whether the terms of each pair are unlike words."""
    return all(words_of(a, table, 0) != words_of(b, table, 0) for a, b in differ)


def are_cells(cells, table, heap):
    """Whether the cells are cells of the heap, at different addresses."""
    found = [tuple(words_of(term, table, 0) for term in cell) for cell in cells]
    addresses = [cell[0] for cell in found]
    return len(set(addresses)) == len(addresses) and all(cell in heap for cell in found)

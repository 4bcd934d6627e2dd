"""Sayings about procedures: what is true before, and what is so afterwards."""

from heappacts.abduction import can_be_true, numbers_of, path_of
from heappacts.checking import procedure_of
from heappacts.finding import contracts
from heappacts.placing import Placing
from heappacts.rules import variables
from heappacts.sameness import example_of
from heappacts.terms import looked_up, put_in_rows


def holds_always(program, name, depth, turns, saying):
    """None if the saying holds; else (actual, heap, words) for which it does not."""
    before = saying[1]
    if not can_be_true(before):
        return None
    many = len(procedure_of(program, name)[2])
    numbers = tuple(sorted(set(tuple(range(many)) + numbers_of(before))))
    placing = Placing(path_of(before, numbers), None)
    for contract in contracts(program, name, depth, turns):
        for path in broken(placing, contract, many, saying):
            words, heap = example_of(path)
            return words[:many], heap, tuple(zip(numbers, words))
    return None


def broken(placing, contract, many, saying):
    """A list of the first new path on which the saying is not kept; an empty one without such a path."""
    start = placing.path
    found = []

    def is_broken(way):
        path, result = placing.composed(contract, way)
        if not is_kept(saying, start, way[1], path, result):
            found.append(path)
        return len(found) > 0
    placing.search(contract, start[1][:many], is_broken)
    return found


def is_kept(saying, start, answer, path, result):
    """Whether the saying is kept on a path which the answer made of the start, and which has this result."""
    after, told = saying[2:]
    if path[9] is not None or result != looked_up(told, answer):
        return False
    cells = put_in_rows(after, answer) + path[2][len(start[2]):]
    return sorted(path[5]) == sorted(cells)


def strongest(contract):
    """The saying that a contract tells which returns and has different variables as arguments; else None."""
    _, arguments, needs, _, differ, end, result, gives = contract[:8]
    if end != "return" or arguments != variables(len(arguments)):
        return None
    return ("saying", ("formula", needs, differ), gives, result)

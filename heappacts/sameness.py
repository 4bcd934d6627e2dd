"""Whether two procedures end alike on all arguments and heaps."""

from heappacts.checking import procedure_of
from heappacts.errors import TooMany
from heappacts.examples import example
from heappacts.finding import Finder
from heappacts.forking import alone, ended_ways
from heappacts.instances import Instance
from heappacts.ordering import numbered_anew, variables_in
from heappacts.placing import Placing
from heappacts.tables import Table
from heappacts.terms import looked_up, put_in_rows
from heappacts.walking import known_words

MOST_CASES = 1500


def compare(program, name, other, depth, turns):
    """None if two procedures end alike everywhere; else arguments and a heap on which they do not."""
    finder = Finder(program, turns)
    return parted(finder.contracts_of(name, depth), finder.contracts_of(other, depth), are_alike)


def parted(firsts, seconds, alike):
    """The example of the first case in which two lists of contracts do not tell the like; None if there is none.

    Of a list of contracts just one applies to a start. So a contract that stands in
    both of them meets no other one, and what it tells is alike.
    """
    shared = {contract[:8]: True for contract in firsts}
    others = Table([contract for contract in seconds if contract[:8] not in shared])
    shared = {contract[:8]: True for contract in seconds}
    cases = 0
    for contract in firsts:
        if contract[:8] in shared:
            cases = counted(cases)
            continue
        placing = Placing(path_before(contract), MOST_CASES + 1)
        for other in others.fitting(placing.path, contract[1]):
            for way in placing.ways(other, contract[1]):
                cases = counted(cases)
                path, result = placing.composed(other, way)
                if not alike(ended(contract, path, way[1]), told_by(path, result), path):
                    return example_of(path)
    return None


def counted(cases):
    """One case more."""
    if cases == MOST_CASES:
        raise TooMany()
    return cases + 1


def path_before(contract):
    """The path that needs what the contract needs and has changed nothing."""
    arguments, needs, absent, differ = contract[1:5]
    return ("path", arguments, needs, absent, differ, needs, (), variables_in(contract), 0, None, ())


def ended(contract, path, answer):
    """(end, result, cells) as the contract tells it, on the path that this answer made of path_before."""
    end, result, gives = contract[5:8]
    if end != "return":
        return (end, None, ())
    return (end, looked_up(result, answer), put_in_rows(gives, answer) + path[2][len(contract[2]):])


def told_by(path, result):
    """(end, result, cells) as the contract tells it with which the path was composed."""
    if path[9] is not None:
        return (path[9], None, ())
    return ("return", result, path[5])


def are_alike(first, second, _):
    """Whether two runs end alike that end so, as (end, result, cells)."""
    return first[:2] == second[:2] and sorted(first[2]) == sorted(second[2])


def example_of(path):
    """Arguments and a heap that have just what the path needs."""
    return example(numbered_anew(("contract", path[1], path[2], (), (), "return", None, (), (), 0)))


def differs(program, name, other, depth, turns):
    """What compare tells, found by asking; it may give another example."""
    actual = known_words(0, len(procedure_of(program, name)[2]))
    starts = tuple([alone(program, each, actual, depth, turns) for each in (name, other)])
    for course in ended_ways(starts, len(actual)):
        if how_it_ended(course, 0) != how_it_ended(course, 1):
            instance = Instance(course.asker)
            return instance.words(actual), instance.heap()
    return None


def how_it_ended(course, number):
    """(end, result, heap) of the course's run of this number; words that may be unlike are unlike."""
    end, result, cells = course.outcomes[number][:3]
    if end != "return":
        return (end, None, None)
    return (end, course.asker.stands(result), course.heap_behind(number, cells))


def partition(program, names, depth, turns):
    """A tuple of tuples of names: those that end alike everywhere stand together."""
    finder = Finder(program, turns)
    lots = []
    for name in names:
        found = finder.contracts_of(name, depth)
        for lot in lots:
            if parted(finder.contracts_of(lot[0], depth), found, are_alike) is None:
                lot.append(name)
                break
        else:
            lots.append([name])
    return tuple([tuple(lot) for lot in lots])

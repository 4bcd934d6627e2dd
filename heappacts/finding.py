"""The contracts of procedures."""

from heappacts.checking import called, procedure_of
from heappacts.errors import TooMany
from heappacts.ordering import put_in_order
from heappacts.paths import start, term_of, with_end, with_name
from heappacts.placing import Placing
from heappacts.rules import actual_of, deep_contract, rules
from heappacts.stepping import do_items

MOST_CONTRACTS = 150
MOST_CELLS = 30


def contracts(program, name, depth, turns):
    """A tuple of all contracts of the procedure, in order."""
    return Finder(program, turns).contracts_of(name, depth)


def body_paths(program, procedure, tables, turns):
    """A tuple of the paths through the body; tables tells the contracts of what it calls."""
    return Walk(procedure, tables, turns, None).finish()


class Finder:
    """Finds contracts, each list of them once."""

    def __init__(self, program, turns):
        self.program = program
        self.turns = turns
        self.known = {}

    def contracts_of(self, name, depth):
        """The contracts of the procedure with this depth."""
        procedure = procedure_of(self.program, name)
        if depth == 0:
            return (deep_contract(len(procedure[2])),)
        if (name, depth) not in self.known:
            tables = tuple([(other, self.contracts_of(other, depth - 1)) for other in called(procedure)])
            self.known[(name, depth)] = contracts_from(procedure, tables, self.turns)
        return self.known[(name, depth)]


def contracts_from(procedure, tables, turns):
    """The contracts of the procedure, the tables telling those of the procedures that it calls."""
    found = []
    for path in Walk(procedure, tables, turns, MOST_CONTRACTS).finish():
        contract = put_in_order(path, term_of(path, procedure[4]))
        if len(contract[7]) > MOST_CELLS:
            raise TooMany()
        found.append(contract)
    return tuple(found)


class Walk:
    """The way of all paths through a procedure's body.

    most: how many paths there may be, None where any number may be. Each path
    that goes on comes to an end or to several, so those that wait count too.
    """

    def __init__(self, procedure, tables, turns, most):
        self.procedure = procedure
        self.tables = dict(tables)
        self.turns = turns
        self.most = most
        self.waiting = [(start(procedure[2]), do_items(procedure[3]))]
        self.found = []

    def finish(self):
        """Go all ways to their ends; a tuple of the paths."""
        while self.waiting:
            path, work = self.waiting.pop()
            if path[9] is None and work:
                self.waiting.extend(self.step(path, work[0], work[1:])[::-1])
            else:
                self.found.append(path)
            self.bound(path)
        return tuple(self.found)

    def bound(self, path):
        """Raise TooMany if there are too many paths, or if this one needs too many cells."""
        if self.most is None:
            return
        if len(self.found) + len(self.waiting) > self.most or len(path[2]) > MOST_CELLS:
            raise TooMany()

    def step(self, path, item, work):
        """Do one item of work: a list of (path, work) for the paths that it leads to, in order."""
        statement = item[1]
        if item[0] == "turn":
            return self.turn(path, statement, item[2], work)
        if statement[0] == "set":
            return [(with_name(path, statement[2], term_of(path, statement[3])), work)]
        if statement[0] == "if":
            same, unlike = self.compared(path, statement)
            yes, no = do_items(statement[4]), do_items(statement[5])
            return [(new, yes + work) for new in same] + [(new, no + work) for new in unlike]
        if statement[0] == "while":
            return [(path, (("turn", statement, self.turns),) + work)]
        return [(new, work) for new in self.behind(path, statement)]

    def turn(self, path, statement, left, work):
        """Leave a loop, or begin one more turn, or end where none is left."""
        same, unlike = self.compared(path, statement)
        found = [(new, work) for new in same]
        if left == 0:
            return found + [(with_end(new, "deep", self.where(statement)), work) for new in unlike]
        more = do_items(statement[4]) + (("turn", statement, left - 1),)
        return found + [(new, more + work) for new in unlike]

    def where(self, statement):
        """Where a path ends that ends at the statement itself."""
        return ((self.procedure[1], statement[1]),)

    def compositions(self, path, statement):
        """For each contract of the statement in order, the pairs (new path, result)."""
        if statement[0] == "call":
            table = self.tables[statement[3]]
        else:
            table = rules(statement)
        actual = tuple(term_of(path, operand) for operand in actual_of(statement))
        placing = Placing(path, self.most)
        return [placing.compose(contract, actual) for contract in table]

    def compared(self, path, statement):
        """The new paths where the two words are the same, and those where they are not."""
        same, unlike = self.compositions(path, statement)
        return [new for new, _ in same], [new for new, _ in unlike]

    def behind(self, path, statement):
        """The new paths behind a load, store, free, new or call, in order."""
        found = []
        for row in self.compositions(path, statement):
            for new, result in row:
                found.append(self.told(new, result, statement))
        return found

    def told(self, path, result, statement):
        """The path behind the statement: with its result, or with the place at which it ended."""
        if path[9] is not None:
            return with_end(path, path[9], self.where(statement) + path[10])
        if statement[0] in ("load", "new", "call"):
            return with_name(path, statement[2], result)
        return path

"""The contracts of procedures."""

from heappacts.checking import called, procedure_of
from heappacts.comparing import same_path, unlike_path
from heappacts.errors import TooMany
from heappacts.ordering import left_out, put_in_order
from heappacts.paths import start, term_of, with_end, with_name
from heappacts.placing import Placing
from heappacts.rules import actual_of, deep_contract, rules
from heappacts.stepping import do_items
from heappacts.tables import Table

MOST_CONTRACTS = 150
MOST_CELLS = 30


def contracts(program, name, depth, turns):
    """A tuple of all contracts of the procedure, in order."""
    return Finder(program, turns).contracts_of(name, depth)


def body_paths(program, procedure, tables, turns):
    """A tuple of the paths through the body; tables tells the contracts of what it calls."""
    return Walk(procedure, tables, turns, None).finish()


class Finder:
    """Finds contracts, each list of them once."""

    def __init__(self, program, turns):
        self.program = program
        self.turns = turns
        self.known = {}

    def contracts_of(self, name, depth):
        """The contracts of the procedure with this depth."""
        procedure = procedure_of(self.program, name)
        if depth == 0:
            return (deep_contract(len(procedure[2])),)
        if (name, depth) not in self.known:
            self.known[(name, depth)] = self.contracts_with(procedure, depth)
        return self.known[(name, depth)]

    def contracts_with(self, procedure, depth):
        """The contracts of a procedure that calls those of the program, whether it is one of them or not."""
        tables = tuple([(other, self.contracts_of(other, depth - 1)) for other in called(procedure)])
        return contracts_from(procedure, tables, self.turns)

    def changed(self, program, name):
        """A finder for a program in which only the procedure of this name is another one.

        What stands before it cannot call it, and has the contracts that it had.
        """
        other = Finder(program, self.turns)
        names = [procedure[1] for procedure in program]
        before = names[:names.index(name)]
        other.known = {key: self.known[key] for key in self.known if key[0] in before}
        return other


def contracts_from(procedure, tables, turns):
    """The contracts of the procedure, the tables telling those of the procedures that it calls."""
    found = []
    for path in Walk(procedure, tables, turns, MOST_CONTRACTS).finish():
        contract = put_in_order(path, term_of(path, procedure[4]))
        if len(contract[7]) > MOST_CELLS:
            raise TooMany()
        found.append(contract)
    return tuple(found)


class Walk:
    """The way of all paths through a procedure's body.

    most: how many paths there may be, None where any number may be. Each path
    that goes on comes to an end or to several, so those that wait count too.
    """

    def __init__(self, procedure, tables, turns, most):
        self.procedure = procedure
        self.tables = {name: Table(found) for name, found in tables}
        self.turns = turns
        self.most = most
        self.waiting = [(start(procedure[2]), do_items(procedure[3]))]
        self.found = []

    def finish(self):
        """Go all ways to their ends; a tuple of the paths."""
        while self.waiting:
            path, work = self.waiting.pop()
            if path[9] is None and work:
                self.waiting.extend(self.step(path, work[0], work[1:])[::-1])
            else:
                self.found.append(path)
            self.bound(path)
        return tuple(self.found)

    def bound(self, path):
        """Raise TooMany if there are too many paths, or if this one needs too many cells."""
        if self.most is None:
            return
        if len(self.found) + len(self.waiting) > self.most or len(path[2]) > MOST_CELLS:
            raise TooMany()

    def step(self, path, item, work):
        """Do one item of work: a list of (path, work) for the paths that it leads to, in order."""
        statement = item[1]
        if item[0] == "turn":
            return self.turn(self.lean(path), statement, item[2], work)
        if statement[0] == "set":
            return [(with_name(path, statement[2], term_of(path, statement[3])), work)]
        if statement[0] == "if":
            same, unlike = compared(path, statement)
            return there((same, do_items(statement[4]) + work), (unlike, do_items(statement[5]) + work))
        if statement[0] == "while":
            return [(path, (("turn", statement, self.turns),) + work)]
        if statement[0] == "call":
            path = self.lean(path)
        return [(new, work) for new in self.behind(path, statement)]

    def turn(self, path, statement, left, work):
        """Leave a loop, or begin one more turn, or end where none is left."""
        same, unlike = compared(path, statement)
        more = do_items(statement[4]) + (("turn", statement, left - 1),)
        if left == 0 and unlike is not None:
            unlike = with_end(unlike, "deep", self.where(statement))
        return there((same, work), (unlike, more + work))

    def where(self, statement):
        """Where a path ends that ends at the statement itself."""
        return ((self.procedure[1], statement[1]),)

    def behind(self, path, statement):
        """The new paths behind a load, store, free, new or call, in order."""
        actual = tuple([term_of(path, operand) for operand in actual_of(statement)])
        table = rules(statement) if statement[0] != "call" else self.tables[statement[3]].fitting(path, actual)
        # one more than there may be is enough to know that there are too many
        placing = Placing(path, None if self.most is None else self.most + 1)
        found = []
        for contract in table:
            for new, result in placing.compose(contract, actual):
                found.append(self.told(new, result, statement))
            if self.most is not None and len(found) > self.most:
                raise TooMany()
        return found

    def lean(self, path):
        """The path without pairs that its contract will not have, which come again with each turn and each call.

        Paths that are asked for themselves, in any number, have all of their pairs.
        """
        if self.most is None or not path[4]:
            return path
        return path[:4] + (left_out(path[4], (), ()),) + path[5:]

    def told(self, path, result, statement):
        """The path behind the statement: with its result, or with the place at which it ended."""
        if path[9] is not None:
            return with_end(path, path[9], self.where(statement) + path[10])
        if statement[0] in ("load", "new", "call"):
            return with_name(path, statement[2], result)
        return path


def compared(path, statement):
    """The new path where the two words are the same, and the one where they are not; None where they cannot be so."""
    a, b = term_of(path, statement[2]), term_of(path, statement[3])
    return same_path(path, a, b), unlike_path(path, a, b)


def there(*found):
    """A list of the (path, work) of which the path is there."""
    return [(path, work) for path, work in found if path is not None]

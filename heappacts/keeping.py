"""Contracts that are kept while a program is changed."""

from heappacts.checking import called, procedure_of
from heappacts.finding import contracts_from
from heappacts.mending import with_procedure
from heappacts.rules import deep_contract


class Keeper:
    """A program that changes, and the contracts of its procedures.

    found: how many lists of contracts have been found up to now.
    """

    def __init__(self, program):
        self.program = program
        self.found = 0
        # by (name, depth, turns): (procedure, the lists of what it calls, contracts)
        self.kept = {}

    def contracts(self, name, depth, turns):
        """The contracts of the procedure as the program is now."""
        return self.brought_up(name, depth, turns, {})

    def change(self, procedure):
        """Put the procedure in the place of the one of its name."""
        self.program = with_procedure(self.program, procedure)

    def brought_up(self, name, depth, turns, done):
        """The contracts, found anew if they may not be as they were; done: those of this call, by (name, depth)."""
        procedure = procedure_of(self.program, name)
        if depth == 0:
            return (deep_contract(len(procedure[2])),)
        if (name, depth) not in done:
            tables = tuple([(other, self.brought_up(other, depth - 1, turns, done)) for other in called(procedure)])
            done[(name, depth)] = self.kept_or_found(procedure, tables, depth, turns)
        return done[(name, depth)]

    def kept_or_found(self, procedure, tables, depth, turns):
        """The contracts that are kept, if they were found with the same things; else they are found anew."""
        key = (procedure[1], depth, turns)
        if key not in self.kept or self.kept[key][:2] != (procedure, tables):
            self.kept[key] = (procedure, tables, contracts_from(procedure, tables, turns))
            self.found += 1
        return self.kept[key][2]

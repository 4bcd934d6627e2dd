"""Runs on words that are not known."""

from heappacts.stepping import Cell, Machine
from heappacts.terms import ZERO


class Unknown:
    """The memory of a run on words that are not known: as much of the heap as has been asked for."""

    def __init__(self, asker):
        self.asker = asker
        self.old = [Cell(cell[0], cell[1], cell[2]) for cell in asker.cells]
        # by their addresses
        self.made = {}
        self.missed = None

    def forked(self, asker):
        """A memory of its own that is like this one and asks another asker."""
        other = Unknown(asker)
        other.old = [cell.forked() for cell in self.old]
        other.made = {address: self.made[address].forked() for address in self.made}
        other.missed = self.missed
        return other

    def constant(self, number):
        """The word of a constant."""
        return ("num", number)

    def held(self):
        """A tuple of the cells that are there, those of the start before those that were made."""
        cells = self.old + list(self.made.values())
        return tuple([cell.told() for cell in cells if not cell.freed])

    def same(self, a, b):
        """Whether two words are the same."""
        return self.asker.same(a, b)

    def make(self, first, second):
        """The address of a new cell."""
        return self.make_at(self.new_address(len(self.made)), first, second)

    def new_address(self, number):
        """The new address of this number."""
        return ("new", number)

    def make_at(self, address, first, second):
        """The new address, at which there is a cell now."""
        self.made[address] = Cell(address, first, second)
        return address

    def cell_at(self, address):
        """The cell at the address and None, or None and how the run ends."""
        if address in self.made:
            return found_at(self.made[address])
        # any other word is certainly no new address
        if self.same(address, ZERO):
            return None, "null"
        for freed in (False, True):
            for cell in self.old:
                if cell.freed == freed and self.same(address, cell.address):
                    return found_at(cell)
        fields = self.asker.cell(address)
        if fields is None:
            self.missed = address
            return None, "missing"
        cell = Cell(address, fields[0], fields[1])
        self.old.append(cell)
        return cell, None


def found_at(cell):
    """What a memory gives for an address at which a cell is, or was."""
    if cell.freed:
        return None, "freed"
    return cell, None


def run_unknown(asker, program, name, actual, depth, turns):
    """(end, result, cells, where, at, news) of a run on these terms."""
    memory = Unknown(asker)
    machine = Machine(memory, program, name, actual, depth, turns)
    while machine.ended is None:
        machine.advance()
    return outcome_of(machine)


def outcome_of(machine):
    """What run_unknown gives, of a run that has ended."""
    end, result, _, where = machine.ended
    memory = machine.memory
    return (end, result, memory.held(), where, memory.missed, len(memory.made))

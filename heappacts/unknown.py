"""Runs on words that are not known."""

from heappacts.asking import ZERO
from heappacts.stepping import Cell, Machine


class Unknown:
    """The memory of a run on words that are not known: as much of the heap as has been asked for."""

    def __init__(self, asker):
        self.asker = asker
        self.old = [Cell(cell[0], cell[1], cell[2]) for cell in asker.cells]
        self.made = []
        self.missed = None

    def constant(self, number):
        """The word of a constant."""
        return ("num", number)

    def held(self):
        """A tuple of the cells that are there, those of the start before those that were made."""
        return tuple([cell.told() for cell in self.old + self.made if not cell.freed])

    def same(self, a, b):
        """Whether two words are the same."""
        return self.asker.same(a, b)

    def make(self, first, second):
        """The address of a new cell."""
        address = ("new", len(self.made))
        self.made.append(Cell(address, first, second))
        return address

    def cell_at(self, address):
        """The cell at the address and None, or None and how the run ends."""
        if self.same(address, ZERO):
            return None, "null"
        for freed in (False, True):
            for cell in self.old + self.made:
                if cell.freed == freed and self.same(address, cell.address):
                    return (None, "freed") if freed else (cell, None)
        fields = self.asker.cell(address)
        if fields is None:
            self.missed = address
            return None, "missing"
        cell = Cell(address, fields[0], fields[1])
        self.old.append(cell)
        return cell, None


def run_unknown(asker, program, name, actual, depth, turns):
    """(end, result, cells, where, at, news) of a run on these terms."""
    memory = Unknown(asker)
    machine = Machine(memory, program, name, actual, depth, turns)
    while machine.ended is None:
        machine.advance()
    end, result, _, where = machine.ended
    return (end, result, memory.held(), where, memory.missed, len(memory.made))

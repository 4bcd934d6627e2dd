"""Two procedures run beside each other, by generators that give way after each step.

A memory tells what words are the same, and which cell is at an address; there is
one on words and one on the words of an asker.
"""

from heappacts.asking import explore
from slowcases import words_of_way


class Stopped(Exception):
    pass


class Words:
    def __init__(self, actuals, heap):
        self.cells = {cell[0]: [cell[1], cell[2]] for cell in heap}
        self.freed = {}
        self.first = max([99, *actuals[0], *actuals[1], *[word for cell in heap for word in cell]]) + 1

    def constant(self, number):
        return number

    def same(self, a, b):
        return a == b

    def fresh(self, number):
        return self.first + number

    def place(self, address):
        if address == 0:
            raise Stopped("null")
        if address not in self.cells:
            raise Stopped("freed" if address in self.freed else "missing")
        return address

    def heap(self):
        return tuple((address, *self.cells[address]) for address in sorted(self.cells))


class Terms:
    """[q3], with a heap of its own: cells in order, each [address, fields, freed]."""

    def __init__(self, asker):
        self.asker = asker
        self.old = [[address, [first, second], False] for address, first, second in asker.cells]
        self.made = []

    def constant(self, number):
        return ("num", number)

    def same(self, a, b):
        return self.asker.same(a, b)

    def fresh(self, number):
        return ("new", number)

    @property
    def cells(self):
        return Fields(self)

    def place(self, address):
        if self.same(address, ("num", 0)):
            raise Stopped("null")
        for freed in (False, True):
            for cell in self.old + self.made:
                if cell[2] == freed and self.same(address, cell[0]):
                    if freed:
                        raise Stopped("freed")
                    return cell[0]
        fields = self.asker.cell(address)
        if fields is None:
            raise Stopped("missing")
        self.old.append([address, list(fields), False])
        return address

    def heap(self):
        return tuple((cell[0], *cell[1]) for cell in self.old + self.made if not cell[2])


class Fields:
    """The cells of terms, by an address as place gives it."""

    def __init__(self, memory):
        self.memory = memory

    def __getitem__(self, address):
        return next(cell[1] for cell in self.memory.old + self.memory.made if cell[0] == address)

    def __setitem__(self, address, fields):
        self.memory.made.append([address, fields, False])

    def __delitem__(self, address):
        next(cell for cell in self.memory.old + self.memory.made if cell[0] == address)[2] = True


def side(procedure, actual, memory, number, outcome):
    """A generator that makes one step each time; the end and the result come into the outcome."""
    _, _, parameters, body, result = procedure
    names = dict(zip(parameters, actual))
    made = [number]

    def word(operand):
        return names.get(operand, memory.constant(0)) if isinstance(operand, str) else memory.constant(operand)

    def block(statements):
        for statement in statements:
            kind, rest = statement[0], statement[2:]
            if kind == "set":
                names[rest[0]] = word(rest[1])
            elif kind == "load":
                names[rest[0]] = memory.cells[memory.place(word(rest[1]))][rest[2]]
            elif kind == "store":
                memory.cells[memory.place(word(rest[0]))][rest[1]] = word(rest[2])
            elif kind == "free":
                address = memory.place(word(rest[0]))
                del memory.cells[address]
                if isinstance(memory, Words):
                    memory.freed[address] = True
            elif kind == "new":
                address = memory.fresh(made[0])
                made[0] += 2
                memory.cells[address] = [word(rest[1]), word(rest[2])]
                names[rest[0]] = address
            else:
                yes = memory.same(word(rest[0]), word(rest[1]))
                yield
                yield from block(rest[2] if yes else rest[3])
                continue
            yield
    try:
        yield from block(body)
        outcome[number] = ("return", word(result))
    except Stopped as stopped:
        outcome[number] = (str(stopped), None)


def beside(procedures, actuals, memory, mixing):
    """The outcome of both, with the heap as the memory tells it."""
    outcome = {}
    sides = [side(procedures[k], actuals[k], memory, k, outcome) for k in (0, 1)]
    for k in list(mixing) + [0] * 99 + [1] * 99:
        if k not in outcome:
            next(sides[k], None)
    return outcome[0] + outcome[1] + (memory.heap(),)


def steps(statements):
    """The greatest number of steps of the statements."""
    return sum(1 + (max(steps(statement[4]), steps(statement[5])) if statement[0] == "if" else 0)
               for statement in statements)


def rising(first, second):
    """All mixings by calls within calls."""
    if first == 0 or second == 0:
        return [(0,) * first + (1,) * second]
    return [(0,) + rest for rest in rising(first - 1, second)] + [(1,) + rest for rest in rising(first, second - 1)]


def first_apart(procedures, orders):
    """[b4]: the first way of the first mixing that has the outcome of none of the orders."""
    many = [len(procedure[2]) for procedure in procedures]
    actuals = (tuple(("known", k) for k in range(many[0])), tuple(("known", many[0] + k) for k in range(many[1])))
    for mixing in rising(steps(procedures[0][3]) + 1, steps(procedures[1][3]) + 1):
        def work(asker):
            found = []
            for order in (mixing,) + orders:
                outcome = beside(procedures, actuals, Terms(asker), order)
                found.append((outcome, len(asker.cells)))
            return found
        for _, asker, found in explore(work, sum(many)):
            def told(outcome, known):
                cells = [tuple(asker.stands(term) for term in cell) for cell in outcome[4] + asker.cells[known:]]
                return [None if term is None else asker.stands(term) for term in (outcome[1], outcome[3])], \
                    outcome[0], outcome[2], sorted(cells)
            first, *others = [told(outcome, known) for outcome, known in found]
            if first not in others:
                *actual, heap = words_of_way(asker, actuals)
                return tuple(actual), heap, mixing
    return None

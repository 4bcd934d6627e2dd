"""The machine that runs procedures on a heap."""

from heappacts.stepping import Cell, Machine

GREATEST_CONSTANT = 99


def first_new(actual, heap):
    """The first new address of a run with these arguments and this heap."""
    words = [GREATEST_CONSTANT]
    words.extend(actual)
    for cell in heap:
        words.extend(cell)
    return 1 + max(words)


class Memory:
    """The heap of a run, what was freed, and what has been looked at."""

    def __init__(self, actual, heap):
        self.places = {cell[0]: Cell(cell[0], cell[1], cell[2]) for cell in heap}
        self.first = first_new(actual, heap)
        self.news = 0
        self.asked = []

    def constant(self, number):
        """The word of a constant."""
        return number

    def held(self):
        """The heap as a tuple."""
        cells = [self.places[address] for address in sorted(self.places)]
        return tuple([cell.told() for cell in cells if not cell.freed])

    def same(self, a, b):
        """Whether two words are the same."""
        self.asked.append(("same", a, b, a == b))
        return a == b

    def new_address(self, number):
        """The new address of this number."""
        return self.first + number

    def make(self, first, second):
        """The address of a new cell."""
        address = self.make_at(self.new_address(self.news), first, second)
        self.news += 1
        return address

    def make_at(self, address, first, second):
        """The new address, at which there is a cell now."""
        self.places[address] = Cell(address, first, second)
        return address

    def cell_at(self, address):
        """The cell at the address and None, or None and how the run ends."""
        self.asked.append(("null", address, address == 0))
        if address == 0:
            return None, "null"
        cell = self.places.get(address, None)
        if cell is None:
            answer = "missing"
        elif cell.freed:
            answer = "freed"
        else:
            answer = "there"
        self.asked.append(("cell", address, answer))
        if answer == "there":
            return cell, None
        return None, answer


class Run(Machine):
    """A run of a procedure, step by step."""

    def __init__(self, program, name, actual, heap, *, depth, turns):
        super().__init__(Memory(actual, heap), program, name, actual, depth, turns)
        self.questions = ()

    def step(self):
        """Make one step; whether there was one to make."""
        if self.ended is not None:
            return False
        self.advance()
        self.questions = tuple(self.memory.asked)
        return True

    def finish(self):
        """Make all steps that are left; the outcome."""
        while self.ended is None:
            self.advance()
        # once for all steps: copied at each one, long runs would take too long
        self.questions = tuple(self.memory.asked)
        return self.ended

    def look(self):
        """The steps made, the heap, the frames and the next new address."""
        frames = []
        for frame in self.frames:
            frames.append((frame.procedure[1], tuple(frame.names.items()), frame.work, frame.depth))
        return (self.steps, self.memory.held(), tuple(frames), self.memory.new_address(self.memory.news))


def run(program, name, actual, heap, depth, turns):
    """The outcome of a run."""
    return Run(program, name, actual, heap, depth=depth, turns=turns).finish()


def places_of(program, name, actual, heap, depth, turns):
    """A tuple of the (procedure, place) of all statements that the run does, rising."""
    whole = Run(program, name, actual, heap, depth=depth, turns=turns)
    done = {}
    while whole.ended is None:
        frame = whole.frames[-1]
        if frame.work:
            done[(frame.procedure[1], frame.work[0][1][1])] = True
        whole.advance()
    return rising(program, done)


def rising(program, done):
    """The (procedure, place) among the keys of a dict, by the procedure's number, then by the place."""
    found = []
    for procedure in program:
        places = sorted([place for owner, place in done if owner == procedure[1]])
        found.extend([(procedure[1], place) for place in places])
    return tuple(found)

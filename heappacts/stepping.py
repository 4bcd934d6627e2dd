"""The steps of runs, whatever their words and their heap are made of."""

from heappacts.checking import procedure_of


def do_items(statements):
    """The items of work that do the statements."""
    return tuple([("do", statement) for statement in statements])


class Frame:
    """A call under way."""

    def __init__(self, procedure, actual, depth):
        self.procedure = procedure
        self.names = dict(zip(procedure[2], actual))
        self.work = do_items(procedure[3])
        self.depth = depth
        self.statement = None

    def put_first(self, items):
        """Put items of work in front of those that are left."""
        self.work = items + self.work

    def take_first(self):
        """Take the first item off the work."""
        item = self.work[0]
        self.work = self.work[1:]
        self.statement = item[1]
        return item

    def forked(self):
        """A frame of its own that is like this one."""
        other = Frame(self.procedure, (), self.depth)
        other.names = {name: self.names[name] for name in self.names}
        other.work = self.work
        other.statement = self.statement
        return other


class Cell:
    """A cell of a heap on which procedures run."""

    def __init__(self, address, first, second):
        self.address = address
        self.fields = [first, second]
        self.freed = False

    def told(self):
        """The cell as a tuple."""
        return (self.address, self.fields[0], self.fields[1])

    def forked(self):
        """A cell of its own that is like this one."""
        other = Cell(self.address, self.fields[0], self.fields[1])
        other.freed = self.freed
        return other


class Machine:
    """A run of a procedure on a memory.

    The memory tells the word of a constant, whether two words are the same,
    which cell is at an address, and makes cells.
    """

    def __init__(self, memory, program, name, actual, depth, turns):
        self.memory = memory
        self.program = program
        self.turns = turns
        self.frames = [Frame(procedure_of(program, name), actual, depth)]
        self.steps = 0
        self.ended = None

    def forked(self, memory):
        """A run of its own that is like this one and goes on with another memory."""
        other = Machine(memory, self.program, self.frames[0].procedure[1], (), 0, self.turns)
        other.frames = [frame.forked() for frame in self.frames]
        other.steps = self.steps
        other.ended = self.ended
        return other

    def advance(self):
        """Make one step of a run that has not ended."""
        self.steps += 1
        frame = self.frames[-1]
        if not frame.work:
            self.give_back(frame)
            return
        item = frame.take_first()
        if item[0] == "do":
            self.do(frame, item[1])
        else:
            self.turn(frame, item[1], item[2])

    def word(self, frame, operand):
        """The word of an operand."""
        if not isinstance(operand, str):
            return self.memory.constant(operand)
        if operand in frame.names:
            return frame.names[operand]
        return self.memory.constant(0)

    def give_back(self, frame):
        """Return from the innermost frame."""
        word = self.word(frame, frame.procedure[4])
        if len(self.frames) == 1:
            self.ended = ("return", word, self.memory.held(), ())
        else:
            self.frames.pop()
            caller = self.frames[-1]
            caller.names[caller.statement[2]] = word

    def fail(self, end):
        """End the run at the statement that is being done."""
        where = tuple((frame.procedure[1], frame.statement[1]) for frame in self.frames)
        self.ended = (end, None, None, where)

    def do(self, frame, statement):
        """Do a statement; of a loop only what comes before its first comparison."""
        if statement[0] == "set":
            frame.names[statement[2]] = self.word(frame, statement[3])
        elif statement[0] == "new":
            first, second = statement[3:]
            frame.names[statement[2]] = self.memory.make(self.word(frame, first), self.word(frame, second))
        elif statement[0] == "if":
            a, b, yes, no = statement[2:]
            frame.put_first(do_items(yes if self.compare(frame, a, b) else no))
        elif statement[0] == "while":
            frame.put_first((("turn", statement, self.turns),))
        elif statement[0] == "call":
            self.call(frame, statement)
        else:
            self.access(frame, statement)

    def turn(self, frame, statement, left):
        """Leave a loop, or begin one more turn."""
        a, b, body = statement[2:]
        if self.compare(frame, a, b):
            return
        if left == 0:
            self.fail("deep")
        else:
            frame.put_first(do_items(body) + (("turn", statement, left - 1),))

    def compare(self, frame, a, b):
        """Whether two operands are the same word."""
        return self.memory.same(self.word(frame, a), self.word(frame, b))

    def call(self, frame, statement):
        """Begin a call."""
        if frame.depth <= 1:
            self.fail("deep")
            return
        procedure = procedure_of(self.program, statement[3])
        actual = tuple([self.word(frame, operand) for operand in statement[4]])
        self.frames.append(Frame(procedure, actual, frame.depth - 1))

    def access(self, frame, statement):
        """Load from a cell, store into it, or free it; the run ends if no cell is there."""
        address = self.word(frame, statement[3] if statement[0] == "load" else statement[2])
        cell, end = self.memory.cell_at(address)
        if end is not None:
            self.fail(end)
        elif statement[0] == "load":
            frame.names[statement[2]] = cell.fields[statement[4]]
        elif statement[0] == "store":
            cell.fields[statement[3]] = self.word(frame, statement[4])
        else:
            cell.freed = True

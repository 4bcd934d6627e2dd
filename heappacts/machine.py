"""The machine that runs procedures on a heap."""

from heappacts.checking import procedure_of

GREATEST_CONSTANT = 99


def do_items(statements):
    """The items of work that do the statements."""
    return tuple(("do", statement) for statement in statements)


def first_new(actual, heap):
    """The first new address of a run with these arguments and this heap."""
    words = [GREATEST_CONSTANT]
    words.extend(actual)
    for cell in heap:
        words.extend(cell)
    return 1 + max(words)


class Frame:
    """A call under way."""

    def __init__(self, procedure, actual, depth):
        self.procedure = procedure
        self.names = dict(zip(procedure[2], actual))
        self.work = do_items(procedure[3])
        self.depth = depth
        self.statement = None

    def word(self, operand):
        """The word of an operand."""
        if isinstance(operand, str):
            return self.names.get(operand, 0)
        return operand

    def put_first(self, items):
        """Put items of work in front of those that are left."""
        self.work = items + self.work

    def take_first(self):
        """Take the first item off the work."""
        item = self.work[0]
        self.work = self.work[1:]
        self.statement = item[1]
        return item


class Run:
    """A run of a procedure, step by step."""

    def __init__(self, program, name, actual, heap, *, depth, turns):
        self.program = program
        self.turns = turns
        self.heap = {address: (first, second) for address, first, second in heap}
        self.freed = {}
        self.fresh = first_new(actual, heap)
        self.frames = [Frame(procedure_of(program, name), actual, depth)]
        self.asked = []
        self.done = {}
        self.steps = 0
        self.ended = None
        self.questions = ()

    def step(self):
        """Make one step; whether there was one to make."""
        if self.ended is not None:
            return False
        self.advance()
        self.questions = tuple(self.asked)
        return True

    def finish(self):
        """Make all steps that are left; the outcome."""
        while self.ended is None:
            self.advance()
        # once for all steps: copied at each one, long runs would take too long
        self.questions = tuple(self.asked)
        return self.ended

    def look(self):
        """The steps made, the heap, the frames and the next new address."""
        frames = []
        for frame in self.frames:
            frames.append((frame.procedure[1], tuple(frame.names.items()), frame.work, frame.depth))
        return (self.steps, self.heap_now(), tuple(frames), self.fresh)

    def heap_now(self):
        """The heap as a tuple."""
        return tuple((address,) + self.heap[address] for address in sorted(self.heap))

    def advance(self):
        """Make one step of a run that has not ended."""
        self.steps += 1
        frame = self.frames[-1]
        if not frame.work:
            self.give_back(frame)
            return
        item = frame.take_first()
        self.done[(frame.procedure[1], item[1][1])] = True
        if item[0] == "do":
            self.do(frame, item[1])
        else:
            self.turn(frame, item[1], item[2])

    def give_back(self, frame):
        """Return from the innermost frame."""
        word = frame.word(frame.procedure[4])
        if len(self.frames) == 1:
            self.ended = ("return", word, self.heap_now(), ())
        else:
            self.frames.pop()
            caller = self.frames[-1]
            caller.names[caller.statement[2]] = word

    def fail(self, end):
        """End the run at the statement that is being done."""
        where = tuple((frame.procedure[1], frame.statement[1]) for frame in self.frames)
        self.ended = (end, None, None, where)

    def do(self, frame, statement):
        """Do a statement; of a loop only what comes before its first comparison."""
        if statement[0] == "set":
            frame.names[statement[2]] = frame.word(statement[3])
        elif statement[0] == "new":
            self.make(frame, statement)
        elif statement[0] == "if":
            a, b, yes, no = statement[2:]
            frame.put_first(do_items(yes if self.same(frame, a, b) else no))
        elif statement[0] == "while":
            frame.put_first((("turn", statement, self.turns),))
        elif statement[0] == "call":
            self.call(frame, statement)
        else:
            self.access(frame, statement)

    def turn(self, frame, statement, left):
        """Leave a loop, or begin one more turn."""
        a, b, body = statement[2:]
        if self.same(frame, a, b):
            return
        if left == 0:
            self.fail("deep")
        else:
            frame.put_first(do_items(body) + (("turn", statement, left - 1),))

    def same(self, frame, a, b):
        """Compare the words of two operands."""
        left, right = frame.word(a), frame.word(b)
        answer = left == right
        self.asked.append(("same", left, right, answer))
        return answer

    def call(self, frame, statement):
        """Begin a call."""
        if frame.depth <= 1:
            self.fail("deep")
            return
        procedure = procedure_of(self.program, statement[3])
        actual = tuple(frame.word(operand) for operand in statement[4])
        self.frames.append(Frame(procedure, actual, frame.depth - 1))

    def make(self, frame, statement):
        """Make a cell at the next new address."""
        first, second = statement[3:]
        self.heap[self.fresh] = (frame.word(first), frame.word(second))
        frame.names[statement[2]] = self.fresh
        self.fresh += 1

    def access(self, frame, statement):
        """Load from a cell, store into it, or free it."""
        address = frame.word(statement[3] if statement[0] == "load" else statement[2])
        if not self.is_there(address):
            return
        if statement[0] == "load":
            frame.names[statement[2]] = self.heap[address][statement[4]]
        elif statement[0] == "store":
            cell = list(self.heap[address])
            cell[statement[3]] = frame.word(statement[4])
            self.heap[address] = tuple(cell)
        else:
            del self.heap[address]
            self.freed[address] = True

    def is_there(self, address):
        """Ask an address; the run ends if no cell is there."""
        self.asked.append(("null", address, address == 0))
        if address == 0:
            self.fail("null")
            return False
        if address in self.heap:
            answer = "there"
        elif address in self.freed:
            answer = "freed"
        else:
            answer = "missing"
        self.asked.append(("cell", address, answer))
        if answer != "there":
            self.fail(answer)
        return answer == "there"


def run(program, name, actual, heap, depth, turns):
    """The outcome of a run."""
    return Run(program, name, actual, heap, depth=depth, turns=turns).finish()


def places_of(program, name, actual, heap, depth, turns):
    """A tuple of the (procedure, place) of all statements that the run does, rising."""
    whole = Run(program, name, actual, heap, depth=depth, turns=turns)
    whole.finish()
    found = []
    for procedure in program:
        places = sorted([place for owner, place in whole.done if owner == procedure[1]])
        found.extend([(procedure[1], place) for place in places])
    return tuple(found)

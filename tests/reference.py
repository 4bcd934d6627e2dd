"""A machine that runs whole statements at once, to compare the stepping one with."""


class Stopped(Exception):
    pass


class Whole:
    """A run, made whole when the object is made."""

    def __init__(self, program, name, actual, heap, depth, turns):
        self.program = {procedure[1]: procedure for procedure in program}
        self.turns = turns
        self.cells = {cell[0]: [cell[1], cell[2]] for cell in heap}
        self.freed = set()
        self.fresh = max([99, *actual, *[word for cell in heap for word in cell]]) + 1
        self.stack = []
        self.questions = []
        self.places = set()
        self.steps = 0
        try:
            result = self.call(name, actual, depth)
            left = tuple((address, *self.cells[address]) for address in sorted(self.cells))
            self.outcome = ("return", result, left, ())
        except Stopped as stopped:
            where = tuple((frame[0], frame[1]) for frame in self.stack)
            self.outcome = (str(stopped), None, None, where)

    def call(self, name, actual, depth):
        _, _, parameters, body, result = self.program[name]
        words = dict(zip(parameters, actual))
        self.stack.append([name, None, depth])
        self.block(body, words)
        self.steps += 1
        self.stack.pop()
        return self.word(result, words)

    def word(self, operand, words):
        return words.get(operand, 0) if isinstance(operand, str) else operand

    def block(self, statements, words):
        for statement in statements:
            self.stack[-1][1] = statement[1]
            self.places.add((self.stack[-1][0], statement[1]))
            self.steps += 1
            getattr(self, "do_" + statement[0])(words, *statement[1:])

    def same(self, a, b, words):
        left, right = self.word(a, words), self.word(b, words)
        self.questions.append(("same", left, right, left == right))
        return left == right

    def cell(self, operand, words):
        address = self.word(operand, words)
        self.questions.append(("null", address, address == 0))
        if address == 0:
            raise Stopped("null")
        known = "there" if address in self.cells else "freed" if address in self.freed else "missing"
        self.questions.append(("cell", address, known))
        if known != "there":
            raise Stopped(known)
        return address

    def do_set(self, words, place, variable, operand):
        words[variable] = self.word(operand, words)

    def do_load(self, words, place, variable, address, field):
        words[variable] = self.cells[self.cell(address, words)][field]

    def do_store(self, words, place, address, field, value):
        self.cells[self.cell(address, words)][field] = self.word(value, words)

    def do_free(self, words, place, address):
        address = self.cell(address, words)
        del self.cells[address]
        self.freed.add(address)

    def do_new(self, words, place, variable, first, second):
        self.cells[self.fresh] = [self.word(first, words), self.word(second, words)]
        words[variable] = self.fresh
        self.fresh += 1

    def do_if(self, words, place, a, b, yes, no):
        self.block(yes if self.same(a, b, words) else no, words)

    def do_while(self, words, place, a, b, body):
        made = 0
        self.steps += 1
        while not self.same(a, b, words):
            if made == self.turns:
                raise Stopped("deep")
            made += 1
            self.block(body, words)
            self.stack[-1][1] = place
            self.steps += 1

    def do_call(self, words, place, variable, name, actual):
        if self.stack[-1][2] == 1:
            raise Stopped("deep")
        given = [self.word(operand, words) for operand in actual]
        words[variable] = self.call(name, given, self.stack[-1][2] - 1)

"""Programs, words and heaps that are drawn, the same ones each time."""

import random

KINDS = ("set", "load", "load", "load", "store", "store", "new", "free", "call", "call", "call")
POOL = (0, 1, 2, 3, 4, 50, 101)


class Drawer:
    """Draws programs within the bounds of the document, whose names have mostly been set before."""

    def __init__(self, seed, most=7, procedures=3, constants=(0, 0, 0, 1, 2)):
        self.random = random.Random(seed)
        self.most = most
        self.procedures = procedures
        self.constants = constants

    def program(self):
        self.made = []
        for number in range(self.random.randint(1, self.procedures)):
            self.made.append(self.procedure(f"f{number}"))
        return tuple(self.made)

    def procedure(self, name):
        parameters = ("x", "y", "z")[:self.random.choice((0, 1, 1, 2, 2, 2, 3))]
        self.place = 0
        self.left = self.random.randint(1, self.most)
        self.callable = [(made[1], len(made[2])) for made in self.made] * 2 + [(name, len(parameters))]
        self.names = list(parameters) or ["u"]
        body = self.block(0)
        return ("procedure", name, parameters, body, self.operand())

    def operand(self):
        return self.random.choice(self.constants) if self.random.random() < 0.15 else self.address()

    def address(self):
        if self.random.random() < 0.05:
            return self.random.choice(self.constants + ("w",))
        return self.random.choice(self.names)

    def target(self):
        name = self.random.choice(self.names + ["u", "v"])
        if name not in self.names:
            self.names.append(name)
        return name

    def block(self, outside):
        made = []
        while self.left > 0 and (outside == 0 or not made or self.random.random() < 0.7):
            self.left -= 1
            place, self.place = self.place, self.place + 1
            made.append(self.statement(place, outside))
        return tuple(made)

    def statement(self, place, outside):
        kind = self.random.choice(KINDS + ("if", "if", "while") * (outside < 2))
        field, a, b = self.random.randint(0, 1), self.address(), self.operand()
        if kind == "set":
            return ("set", place, self.target(), b)
        if kind == "load":
            return ("load", place, self.target(), a, field)
        if kind == "store":
            return ("store", place, a, field, b)
        if kind == "new":
            return ("new", place, self.target(), self.operand(), b)
        if kind == "free":
            return ("free", place, a)
        if kind == "call":
            name, many = self.random.choice(self.callable)
            actual = tuple(self.operand() for _ in range(many))
            return ("call", place, self.target(), name, actual)
        yes = self.block(outside + 1)
        if kind == "while":
            return ("while", place, a, b, yes)
        return ("if", place, a, b, yes, self.block(outside + 1) if self.random.random() < 0.5 else ())

    def words(self, many, pool=POOL):
        return tuple(self.random.choice(pool) for _ in range(many))

    def heap(self, pool=POOL):
        addresses = sorted(self.random.sample(pool[1:], self.random.randint(0, len(pool) - 1)))
        return tuple((address,) + self.words(2, pool) for address in addresses)


def numbered(statements, place=0):
    """The statements with their places anew, and the place behind them."""
    made = []
    for statement in statements:
        blocks = []
        head, behind = (statement[0], place) + statement[2:], place + 1
        if statement[0] in ("if", "while"):
            for block in statement[4:]:
                block, behind = numbered(block, behind)
                blocks.append(block)
            head = head[:4] + tuple(blocks)
        made.append(head)
        place = behind
    return tuple(made), place


def variant(drawer, procedure, name):
    """A procedure like this one under another name: mostly with one statement left out, changed or moved."""
    _, _, parameters, body, result = procedure
    body, share = list(body), drawer.random.random()
    place = drawer.random.randrange(len(body))
    if share < 0.25:
        del body[place]
    elif share < 0.5:
        body.insert(drawer.random.randrange(len(body)), body.pop(place))
    elif share < 0.6:
        drawer.names, drawer.callable, drawer.left, drawer.place = list(parameters) or ["u"], [], 0, 0
        body[place] = ("set", 0, drawer.target(), drawer.operand())
    elif share < 0.7:
        result = drawer.random.choice(parameters + ("u", "v", 0, 1))
    elif share < 0.8:
        body.insert(place, ("new", 0, "w", drawer.random.choice(parameters + (0,)), 0))
    return ("procedure", name, parameters, numbered(body)[0], result)


class Terms:
    """Draws paths and contracts, possible ones or not, with few variables."""

    def __init__(self, seed):
        self.random = random.Random(seed)

    def term(self, variables, news=0):
        share = self.random.random()
        if share < 0.1:
            return ("num", self.random.choice((0, 1)))
        if share < 0.25 and news:
            return ("new", self.random.randrange(news))
        return ("var", self.random.randrange(variables))

    def row(self, many, variables, news=0):
        return tuple(self.term(variables, news) for _ in range(many))

    def rows(self, many, length, variables, news=0):
        return tuple(self.row(length, variables, news) for _ in range(many))

    def path(self):
        """A path; its present cells are some of the needed ones and of the new ones, and seldom others."""
        choice = self.random.choice
        variables, news = self.random.randint(3, 8), choice((0, 0, 1, 2))
        needs = tuple((("var", number),) + self.row(2, variables) for number in range(choice((0, 1, 2, 2))))
        if self.random.random() < 0.2:
            needs += self.rows(1, 3, variables)
        present = [(cell[0],) + self.row(2, variables, news) for cell in needs if self.random.random() < 0.7]
        present += [(("new", k),) + self.row(2, variables, news) for k in range(news) if self.random.random() < 0.7]
        if self.random.random() < 0.2:
            present += self.rows(1, 3, variables, news)
        self.random.shuffle(present)
        names = tuple((name, self.term(variables, news)) for name in "xyz"[:choice((0, 1, 3))])
        return ("path", self.row(choice((0, 1, 2)), variables), needs, self.row(choice((0, 0, 0, 1)), variables),
                self.rows(choice((0, 0, 1, 2)), 2, variables, news), tuple(present), names, variables, news, None, ())

    def contract(self):
        choice = self.random.choice
        variables, news = self.random.randint(3, 6), choice((0, 0, 1, 2))
        end = choice(("return", "return", "missing", "missing", "null", "freed", "deep"))
        needs = self.rows(choice((0, 1, 1, 2, 2, 3)), 3, variables)
        arguments = self.row(choice((0, 1, 2)), variables)
        absent = self.row(1, variables) if end == "missing" else ()
        if end != "return":
            differ = self.rows(choice((0, 0, 1)), 2, variables)
            return ("contract", arguments, needs, absent, differ, end, None, (), (("g", 1),), 0)
        differ = self.rows(choice((0, 0, 1)), 2, variables, news)
        result = choice((None, self.term(variables, news)))
        return ("contract", arguments, needs, absent, differ, end, result,
                self.rows(choice((0, 1, 2)), 3, variables, news), (), news)

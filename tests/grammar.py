"""The grammar of the document, and which token is the first that does not fit.

It follows all ways at once, as sets of what is still wanted; nothing of it is
taken from the program.
"""

GRAMMAR = {
    "program": [(), ("proc", "program")],
    "proc": [("procedure", "NAME", "(", "names", ")", "{", "statements", "return", "operand", ";", "}")],
    "names": [(), ("NAME", "more names")],
    "more names": [(), (",", "NAME", "more names")],
    "statements": [(), ("statement", "statements")],
    "statement": [
        ("NAME", "=", "right", ";"),
        ("operand", ".", "field", "=", "operand", ";"),
        ("free", "operand", ";"),
        ("if", "operand", "=", "operand", "block"),
        ("if", "operand", "=", "operand", "block", "else", "block"),
        ("while", "operand", "!=", "operand", "block"),
    ],
    "block": [("{", "statements", "}")],
    "right": [
        ("operand",),
        ("operand", ".", "field"),
        ("new", "(", "operand", ",", "operand", ")"),
        ("NAME", "(", "operands", ")"),
    ],
    "operands": [(), ("operand", "more operands")],
    "more operands": [(), (",", "operand", "more operands")],
    "operand": [("NAME",), ("NUMBER",)],
    "field": [("first",), ("second",)],
}

TERMINALS = (
    "procedure", "return", "if", "else", "while", "new", "free", "first", "second",
    "(", ")", "{", "}", ",", ";", ".", "=", "!=", "NAME", "NUMBER",
)


def opened(wanted):
    """All ways in which what is wanted can begin with a terminal, or be nothing."""
    if not wanted or wanted[0] not in GRAMMAR:
        return [wanted]
    found = []
    for right in GRAMMAR[wanted[0]]:
        found.extend(opened(right + wanted[1:]))
    return found


def beginning():
    return frozenset([("program",)])


def behind(ways, terminal):
    """What can be wanted behind the terminal; empty if it does not fit."""
    found = set()
    for wanted in ways:
        for way in opened(wanted):
            if way and way[0] == terminal:
                found.add(way[1:])
    return frozenset(found)


def complete(ways):
    return any(not way for wanted in ways for way in opened(wanted))


def first_misfit(terminals, ways=None):
    """The number of the first terminal that does not fit (the end among them), None for a program."""
    ways = beginning() if ways is None else ways
    for number, terminal in enumerate(terminals):
        ways = behind(ways, terminal)
        if not ways:
            return number
    return None if complete(ways) else len(terminals)

"""Programs from their text."""

from heappacts.errors import TextFault
from heappacts.words import FIELDS, tokens


class Reader:
    """The tokens of a text, and how many of them have been read."""

    def __init__(self, text):
        self.found = tokens(text)
        self.at = 0

    def sees(self, kind, value):
        """Whether the next token is this one."""
        return self.found[self.at][:2] == (kind, value)

    def refuse(self):
        """Tell that the next token is one too many."""
        line, column = self.found[self.at][2:]
        raise TextFault(line, column, "unexpected token")

    def take(self, kinds):
        """The value of the next token, which must be of one of the kinds."""
        kind, value = self.found[self.at][:2]
        if kind not in kinds:
            self.refuse()
        self.at += 1
        return value

    def skip(self, kind, value):
        """Go on behind this token, which must be the next one."""
        if not self.sees(kind, value):
            self.refuse()
        self.at += 1

    def sign(self, value):
        """Go on behind this sign."""
        self.skip("sign", value)

    def take_name(self):
        """The name that is next."""
        return self.take(("name",))

    def take_operand(self):
        """The operand that is next."""
        return self.take(("name", "number"))

    def take_field(self):
        """The number of the field whose word is next."""
        value = self.found[self.at][1]
        if value not in FIELDS:
            self.refuse()
        self.at += 1
        return FIELDS.index(value)


def parse(text):
    """The program that the text tells."""
    reader = Reader(text)
    procedures = []
    while not reader.sees("end", ""):
        procedures.append(read_procedure(reader))
    return tuple(procedures)


def read_procedure(reader):
    """The procedure that is next."""
    reader.skip("word", "procedure")
    name = reader.take_name()
    parameters = read_row(reader, ("name",))
    reader.sign("{")
    body = read_body(reader)
    reader.skip("word", "return")
    result = reader.take_operand()
    reader.sign(";")
    reader.sign("}")
    return ("procedure", name, parameters, body, result)


def read_row(reader, kinds):
    """A tuple of the values between two parentheses, with commas between them."""
    reader.sign("(")
    values = []
    if not reader.sees("sign", ")"):
        values.append(reader.take(kinds))
        while reader.sees("sign", ","):
            reader.sign(",")
            values.append(reader.take(kinds))
    reader.sign(")")
    return tuple(values)


def read_body(reader):
    """The statements up to the word return.

    Open blocks are kept in lists, as a text can have more of them in one
    another than Python can have calls.
    """
    heads = []
    rows = [[]]
    place = 0
    while heads or not reader.sees("word", "return"):
        if heads and reader.sees("sign", "}"):
            close_block(reader, heads, rows)
        else:
            read_statement(reader, place, heads, rows)
            place += 1
    return tuple(rows[0])


def read_statement(reader, place, heads, rows):
    """Read a statement without blocks, or up to the brace of its first block."""
    if reader.sees("word", "if"):
        heads.append(read_head(reader, place, "if", "="))
        rows.append([])
    elif reader.sees("word", "while"):
        heads.append(read_head(reader, place, "while", "!="))
        rows.append([])
    else:
        rows[-1].append(read_simple(reader, place))


def read_head(reader, place, word, sign):
    """The kind, the place and the two operands of a statement with blocks."""
    reader.skip("word", word)
    a = reader.take_operand()
    reader.sign(sign)
    b = reader.take_operand()
    reader.sign("{")
    return (word, place, a, b)


def close_block(reader, heads, rows):
    """End the innermost block, and its statement where no further block comes."""
    reader.sign("}")
    head = heads.pop()
    block = tuple(rows.pop())
    if head[0] == "if" and reader.sees("word", "else"):
        reader.skip("word", "else")
        reader.sign("{")
        heads.append(("else",) + head[1:] + (block,))
        rows.append([])
    elif head[0] == "if":
        rows[-1].append(head + (block, ()))
    elif head[0] == "else":
        rows[-1].append(("if",) + head[1:] + (block,))
    else:
        rows[-1].append(head + (block,))


def read_simple(reader, place):
    """A statement that has no blocks."""
    if reader.sees("word", "free"):
        reader.skip("word", "free")
        address = reader.take_operand()
        reader.sign(";")
        return ("free", place, address)
    target = reader.take_operand()
    if isinstance(target, str) and reader.sees("sign", "="):
        return read_setting(reader, place, target)
    reader.sign(".")
    field = reader.take_field()
    reader.sign("=")
    value = reader.take_operand()
    reader.sign(";")
    return ("store", place, target, field, value)


def read_setting(reader, place, variable):
    """A statement that sets the variable, from the sign = on."""
    reader.sign("=")
    if reader.sees("word", "new"):
        return read_new(reader, place, variable)
    operand = reader.take_operand()
    if reader.sees("sign", "."):
        reader.sign(".")
        statement = ("load", place, variable, operand, reader.take_field())
    elif isinstance(operand, str) and reader.sees("sign", "("):
        statement = ("call", place, variable, operand, read_row(reader, ("name", "number")))
    else:
        statement = ("set", place, variable, operand)
    reader.sign(";")
    return statement


def read_new(reader, place, variable):
    """A statement that makes a cell, from the word new on."""
    reader.skip("word", "new")
    reader.sign("(")
    first = reader.take_operand()
    reader.sign(",")
    second = reader.take_operand()
    reader.sign(")")
    reader.sign(";")
    return ("new", place, variable, first, second)

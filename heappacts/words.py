"""The tokens of a program text."""

from heappacts.errors import TextFault

LETTERS = "abcdefghijklmnopqrstuvwxyz"
DIGITS = "0123456789"
SIGNS = "(){},;.="
FIELDS = ("first", "second")
KEYWORDS = ("procedure", "return", "if", "else", "while", "new", "free", "first", "second")
LONGEST_TEXT = 6000
LONGEST_NAME = 8
LONGEST_NUMBER = 2


def tokens(text):
    """A tuple of (kind, value, line, column), the end being the last one."""
    if len(text) > LONGEST_TEXT:
        raise TextFault(1, 1, "text too long")
    found = []
    line, begin, at = 1, 0, 0
    while at < len(text):
        if text[at] == "\n":
            line, begin, at = line + 1, at + 1, at + 1
        elif text[at] == " ":
            at += 1
        elif text[at] == "#":
            at = end_of_remark(text, at)
        else:
            column = at - begin + 1
            kind, value, behind = read_token(text, at, line, column)
            found.append((kind, value, line, column))
            at = behind
    found.append(("end", "", line, at - begin + 1))
    return tuple(found)


def end_of_remark(text, at):
    """The index of the newline that ends the remark, or the end of the text."""
    newline = text.find("\n", at)
    if newline < 0:
        return len(text)
    return newline


def end_of_row(text, at, characters):
    """The first index from at on with another character than these."""
    while at < len(text) and text[at] in characters:
        at += 1
    return at


def read_token(text, at, line, column):
    """Kind and value of the token that begins at the index, and the index behind it."""
    if text[at] in LETTERS:
        return read_word(text, at, line, column)
    if text[at] in DIGITS:
        return read_number(text, at, line, column)
    if text[at:at + 2] == "!=":
        return "sign", "!=", at + 2
    if text[at] in SIGNS:
        return "sign", text[at], at + 1
    raise TextFault(line, column, "unknown character")


def read_word(text, at, line, column):
    """A name or a keyword, as read_token gives it."""
    behind = end_of_row(text, at, LETTERS + DIGITS)
    word = text[at:behind]
    if word in KEYWORDS:
        return "word", word, behind
    # asked behind the keywords: one of them is longer than a name may be
    if len(word) > LONGEST_NAME:
        raise TextFault(line, column, "name too long")
    return "name", word, behind


def read_number(text, at, line, column):
    """A number, as read_token gives it."""
    behind = end_of_row(text, at, DIGITS)
    digits = text[at:behind]
    if len(digits) > LONGEST_NUMBER or (len(digits) > 1 and digits[0] == "0"):
        raise TextFault(line, column, "number too large")
    if end_of_row(text, behind, LETTERS) > behind:
        raise TextFault(line, column + len(digits), "number ends here")
    return "number", int(digits), behind

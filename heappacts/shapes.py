"""Whether things that may be anything have the shapes of terms, contracts and questions."""

ENDS = ("return", "missing", "null", "freed", "deep")
GREATEST_CONSTANT = 99


def is_number(thing):
    """Whether it is a whole number from 0 on."""
    return isinstance(thing, int) and not isinstance(thing, bool) and thing >= 0


def is_constant(thing):
    """Whether it is a constant."""
    return is_number(thing) and thing <= GREATEST_CONSTANT


def is_row(thing, length):
    """Whether it is a tuple of this length."""
    return isinstance(thing, tuple) and len(thing) == length


def is_kind(thing, kind, length):
    """Whether it is a tuple of this length whose first item is the text."""
    return is_row(thing, length) and isinstance(thing[0], str) and thing[0] == kind


def is_term(thing):
    """Whether it is a term of a contract."""
    if is_kind(thing, "num", 2):
        return is_constant(thing[1])
    return (is_kind(thing, "var", 2) or is_kind(thing, "new", 2)) and is_number(thing[1])


def are_terms(thing):
    """Whether it is a tuple of terms."""
    return isinstance(thing, tuple) and all([is_term(part) for part in thing])


def are_rows(thing, length):
    """Whether it is a tuple of tuples of so many terms: of cells, or of pairs."""
    return isinstance(thing, tuple) and all([is_row(part, length) and are_terms(part) for part in thing])


def is_where(thing):
    """Whether it is a tuple of pairs of a name and a place."""
    return isinstance(thing, tuple) and all(
        [is_row(part, 2) and isinstance(part[0], str) and is_number(part[1]) for part in thing])


def is_contract(thing):
    """Whether it has the shape of a contract."""
    if not is_kind(thing, "contract", 10):
        return False
    arguments, needs, absent, differ, end, result, gives, where, news = thing[1:]
    if not (isinstance(end, str) and end in ENDS):
        return False
    return (are_terms(arguments) and are_rows(needs, 3) and are_rows(gives, 3) and are_rows(differ, 2)
            and (result is None or is_term(result)) and is_where(where)
            and are_terms(absent) and len(absent) == (1 if end == "missing" else 0)
            and is_number(news) and (news == 0 or end == "return"))


def is_word_there(thing, many):
    """Whether it is a constant, or one of so many known words."""
    if is_kind(thing, "num", 2):
        return is_constant(thing[1])
    return is_kind(thing, "known", 2) and is_number(thing[1]) and thing[1] < many


def is_question(node):
    """Whether it is a node of a tree that has a yes and a no."""
    return is_kind(node, "same", 5) or is_kind(node, "cell", 4)

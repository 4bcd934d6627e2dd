"""Terms, equations between them, and what stands for them."""

ZERO = ("num", 0)


def solve(equations):
    """A tuple of (k, term) for the variables that are replaced, None without a solution."""
    table = {}
    for a, b in equations:
        left = looked_up(a, table)
        right = looked_up(b, table)
        if left != right:
            if left[0] != "var" and right[0] != "var":
                return None
            number, term = replacement(left, right)
            table = {k: term if old == ("var", number) else old for k, old in table.items()}
            table[number] = term
    return tuple(sorted(table.items()))


def replacement(a, b):
    """Of two unlike terms, one of them a variable: the variable to replace, and by what."""
    if b[0] != "var" or (a[0] == "var" and a[1] > b[1]):
        return a[1], b
    return b[1], a


def looked_up(term, table):
    """The term with what the table (a dict) replaces replaced."""
    if term[0] == "var":
        return table.get(term[1], term)
    return term


def put(term, answer):
    """The term with what is replaced replaced."""
    return looked_up(term, dict(answer))


def put_cell(cell, answer):
    """The cell of terms with what is replaced replaced."""
    return put_all(cell, answer)


def put_pair(pair, answer):
    """The pair with what is replaced replaced."""
    return put_all(pair, answer)


def put_all(things, answer):
    """The cells, pairs or terms with what is replaced replaced."""
    table = dict(answer)
    found = []
    for thing in things:
        if is_term(thing):
            found.append(looked_up(thing, table))
        else:
            found.append(tuple(looked_up(term, table) for term in thing))
    return tuple(found)


def put_in(terms, table):
    """A tuple of the terms with what the table (a dict) replaces replaced."""
    return tuple([table.get(term[1], term) if term[0] == "var" else term for term in terms])


def put_in_rows(rows, table):
    """A tuple of the cells, or of the pairs, with what the table (a dict) replaces replaced."""
    return tuple([put_in(row, table) for row in rows])


def is_term(thing):
    """Whether it is a term; else it is a cell or a pair."""
    return isinstance(thing[0], str)


def terms_in(thing):
    """A tuple of the terms of a cell, a pair or a term."""
    if is_term(thing):
        return (thing,)
    return thing


def shift(term, variables, news):
    """The term with so much added to the number of a variable or a new address."""
    if term[0] == "var":
        return ("var", term[1] + variables)
    if term[0] == "new":
        return ("new", term[1] + news)
    return term


def shift_cell(cell, variables, news):
    """The cell of terms with its terms shifted."""
    return shift_all(cell, variables, news)


def shift_pair(pair, variables, news):
    """The pair with its terms shifted."""
    return shift_all(pair, variables, news)


def shift_all(things, variables, news):
    """The cells, pairs or terms with their terms shifted."""
    found = []
    for thing in things:
        if is_term(thing):
            found.append(shift(thing, variables, news))
        else:
            found.append(tuple(shift(term, variables, news) for term in thing))
    return tuple(found)


def variables_of(things):
    """A tuple of the numbers of the variables, in the order in which they occur first."""
    numbers = {}
    for thing in things:
        for term in terms_in(thing):
            if term[0] == "var":
                numbers[term[1]] = True
    return tuple(numbers)


def certainly_unlike(a, b, addresses):
    """Whether two terms surely are different words, with needed cells at the addresses."""
    if a == b:
        return False
    if a[0] == "new" or b[0] == "new":
        return True
    if a[0] == "num" and b[0] == "num":
        return True
    return is_zero_or_in(a, addresses) and is_zero_or_in(b, addresses)


def is_zero_or_in(term, addresses):
    """Whether the term is 0 or one of the addresses."""
    return term == ZERO or term in addresses


def words_of(term, words, news):
    """The word of the term."""
    if term[0] == "var":
        return words[term[1]]
    if term[0] == "new":
        return news + term[1]
    return term[1]

"""Paths through a procedure's body."""

from heappacts.terms import looked_up, put_in, put_in_rows


def start(parameters):
    """The path at the start of a procedure with these parameters."""
    many = len(parameters)
    arguments = tuple(("var", number) for number in range(many))
    names = tuple(zip(parameters, arguments))
    return ("path", arguments, (), (), (), (), names, many, 0, None, ())


def gone(path):
    """The addresses of needed cells and the new ones at which no present cell is."""
    addresses = [cell[0] for cell in path[2]] + [("new", number) for number in range(path[8])]
    # a dict, as a path can have thousands of present cells
    present = {cell[0]: True for cell in path[5]}
    return tuple(address for address in addresses if address not in present)


def possible(path):
    """Whether some words fit what the path needs."""
    arguments, needs, absent, differ = path[1:5]
    addresses = [cell[0] for cell in needs]
    if ("num", 0) in addresses or len(set(addresses)) < len(addresses):
        return False
    if any(address in addresses for address in absent):
        return False
    if any(a == b for a, b in differ):
        return False
    return not (has_new(arguments) or has_new(absent) or any(has_new(cell) for cell in needs))


def has_new(terms):
    """Whether a new address is among the terms."""
    return any(term[0] == "new" for term in terms)


def term_of(path, operand):
    """The term that an operand stands for."""
    if not isinstance(operand, str):
        return ("num", operand)
    for name, term in path[6]:
        if name == operand:
            return term
    return ("num", 0)


def with_name(path, name, term):
    """The path in which the name stands for the term."""
    names = dict(path[6])
    names[name] = term
    return path[:6] + (tuple(names.items()),) + path[7:]


def replaced(path, answer):
    """The path with what is replaced replaced."""
    return replaced_by(path, dict(answer))


def replaced_by(path, table):
    """The path with the variables replaced whose numbers are in the table, a dict."""
    _, arguments, needs, absent, differ, present, names = path[:7]
    return ("path", put_in(arguments, table), put_in_rows(needs, table), put_in(absent, table),
            put_in_rows(differ, table), put_in_rows(present, table),
            tuple([(name, looked_up(term, table)) for name, term in names])) + path[7:]


def with_end(path, end, where):
    """The path that has ended so, and there."""
    return path[:9] + (end, where)

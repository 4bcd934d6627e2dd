"""Comparisons on a path: what composing with their two contracts gives, without the detour."""

from heappacts.terms import ZERO, replacement


def same_path(path, a, b):
    """The new path where two terms of a possible path are the same words; None if they cannot be."""
    if a == b:
        return path[:7] + (path[7] + 1,) + path[8:]
    if a[0] != "var" and b[0] != "var":
        return None
    number, term = replacement(a, b)
    old = ("var", number)
    if not can_be(path, old, term):
        return None
    _, arguments, needs, absent, differ, present, names = path[:7]
    return ("path", put_one(arguments, old, term), put_in_some(needs, old, term), put_one(absent, old, term),
            put_in_some(differ, old, term), put_in_some(present, old, term), put_in_some(names, old, term),
            path[7] + 1) + path[8:]


def put_one(row, old, term):
    """The row with one term in the place of an old one."""
    return tuple([term if part == old else part for part in row])


def put_in_some(rows, old, term):
    """The rows, most of which may not have the old term, with another one in its place."""
    return tuple([put_one(row, old, term) if old in row else row for row in rows])


def unlike_path(path, a, b):
    """The new path where two terms of a possible path are unlike words; None if they cannot be."""
    if a == b:
        return None
    return path[:4] + (path[4] + ((a, b),),) + path[5:7] + (path[7] + 2,) + path[8:]


def can_be(path, old, term):
    """Whether a possible path stays possible where the term stands for the old one, a variable."""
    arguments, needs, absent, differ = path[1:5]
    if (old, term) in differ or (term, old) in differ:
        return False
    if term[0] == "new" and (old in arguments or old in absent or any([old in cell for cell in needs])):
        return False
    addresses = [cell[0] for cell in needs]
    if old in addresses:
        return not (term == ZERO or term in addresses or term in absent)
    return not (old in absent and term in addresses)

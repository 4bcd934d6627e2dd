"""The contracts of statements."""

from heappacts.terms import ZERO

NEW = ("new", 0)


def rules(statement):
    """A tuple of the contracts of a load, store, free, new, if or while."""
    kind = statement[0]
    if kind == "load":
        return load_rules(statement[4])
    if kind == "store":
        return store_rules(statement[3])
    if kind == "free":
        return free_rules()
    if kind == "new":
        return new_rules()
    return compare_rules()


def actual_of(statement):
    """A tuple of the statement's operands that are the actual terms."""
    kind = statement[0]
    if kind == "load":
        return (statement[3],)
    if kind == "store":
        return (statement[2], statement[4])
    if kind == "free":
        return (statement[2],)
    if kind == "new":
        return statement[3:5]
    if kind == "call":
        return statement[4]
    return statement[2:4]


def deep_contract(count):
    """The one contract of a procedure with so many parameters at the depth 0."""
    return ending(variables(count), (), (), "deep")


def variables(count):
    """So many variables, from 0 on."""
    return tuple(("var", number) for number in range(count))


def ending(arguments, absent, differ, end):
    """A contract that does not return."""
    return ("contract", arguments, (), absent, differ, end, None, (), (), 0)


def returning(arguments, needs, result, gives):
    """A contract that returns, with no pairs and no new addresses."""
    return ("contract", arguments, needs, (), (), "return", result, gives, (), 0)


def no_cell(count):
    """The contracts where no cell is at the first of so many arguments."""
    arguments = variables(count)
    address = arguments[0]
    return (
        ending(arguments, (address,), ((address, ZERO),), "missing"),
        ending((ZERO,) + variables(count - 1), (), (), "null"),
    )


def load_rules(field):
    """The contracts of a load of this field."""
    cell = variables(3)
    return (returning(cell[:1], (cell,), cell[1 + field], (cell,)),) + no_cell(1)


def store_rules(field):
    """The contracts of a store into this field."""
    address, value, first, second = variables(4)
    given = (address, value, second) if field == 0 else (address, first, value)
    return (returning((address, value), ((address, first, second),), None, (given,)),) + no_cell(2)


def free_rules():
    """The contracts of a free."""
    cell = variables(3)
    return (returning(cell[:1], (cell,), None, ()),) + no_cell(1)


def new_rules():
    """The contract of a new."""
    first, second = variables(2)
    given = (NEW, first, second)
    return (("contract", (first, second), (), (), (), "return", NEW, (given,), (), 1),)


def compare_rules():
    """The contracts of a comparison: the same words, then unlike ones."""
    a, b = variables(2)
    return (
        returning((a, a), (), None, ()),
        ("contract", (a, b), (), (), ((a, b),), "return", None, (), (), 0),
    )

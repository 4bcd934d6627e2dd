"""The faults of programs, and questions about procedures."""

from heappacts.errors import ProgramFault

MOST_PROCEDURES = 8
MOST_PARAMETERS = 4
MOST_STATEMENTS = 14
MOST_OUTSIDE = 2


def check(program):
    """Raise the first fault of the program, if it has one."""
    for number in range(len(program)):
        procedure = program[number]
        check_head(procedure, program[:number])
        check_statements(procedure, program[:number + 1])


def check_head(procedure, earlier):
    """Raise the first fault of a procedure but for those of its statements."""
    name, parameters, body = procedure[1:4]
    if len(earlier) >= MOST_PROCEDURES:
        raise ProgramFault(name, None, "too many procedures")
    if procedure_of(earlier, name) is not None:
        raise ProgramFault(name, None, "procedure stands twice")
    if len(parameters) > MOST_PARAMETERS:
        raise ProgramFault(name, None, "too many parameters")
    if len(set(parameters)) < len(parameters):
        raise ProgramFault(name, None, "parameter stands twice")
    if count(body) > MOST_STATEMENTS:
        raise ProgramFault(name, None, "too many statements")


def check_statements(procedure, callable_ones):
    """Raise the first fault of the procedure's statements."""
    for statement, outside in listed(procedure[3]):
        if outside > MOST_OUTSIDE:
            raise ProgramFault(procedure[1], statement[1], "too deep")
        if statement[0] == "call":
            check_call(procedure[1], statement, callable_ones)


def check_call(name, statement, callable_ones):
    """Raise the fault of a call in the procedure of this name, if it has one."""
    place = statement[1]
    target, actual = statement[3:]
    procedure = procedure_of(callable_ones, target)
    if procedure is None:
        raise ProgramFault(name, place, "unknown procedure")
    if len(procedure[2]) != len(actual):
        raise ProgramFault(name, place, "wrong number of arguments")


def blocks(statement):
    """A tuple of the blocks of a statement, in the order of the text."""
    if statement[0] == "if":
        return statement[4:6]
    if statement[0] == "while":
        return statement[4:5]
    return ()


def listed(statements):
    """A tuple of (statement, how many it stands in), in the order of places.

    What is still to come is kept in a list, as statements can stand in one
    another deeper than Python can have calls.
    """
    found = []
    waiting = [(statement, 0) for statement in reversed(statements)]
    while waiting:
        statement, outside = waiting.pop()
        found.append((statement, outside))
        for block in reversed(blocks(statement)):
            for inner in reversed(block):
                waiting.append((inner, outside + 1))
    return tuple(found)


def called(procedure):
    """A tuple of the names of the procedures that it calls, in the order of places."""
    names = {}
    for statement, _ in listed(procedure[3]):
        if statement[0] == "call":
            names[statement[3]] = True
    return tuple(names)


def procedure_of(program, name):
    """The procedure of this name, None if there is none."""
    for procedure in program:
        if procedure[1] == name:
            return procedure
    return None


def count(statements):
    """How many statements there are, those within others among them."""
    return len(listed(statements))

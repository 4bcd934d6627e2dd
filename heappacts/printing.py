"""The text of programs."""

from heappacts.words import FIELDS

INDENT = "    "


def print_program(program):
    """The text that tells the program."""
    return "\n".join([procedure_text(procedure) for procedure in program])


def procedure_text(procedure):
    """The text of a procedure, with a newline behind each line."""
    name, parameters, body, result = procedure[1:]
    lines = [f"procedure {name}(" + ", ".join(parameters) + ") {"]
    lines.extend(block_lines(body))
    lines.append(f"{INDENT}return {result};")
    lines.append("}")
    return "".join([line + "\n" for line in lines])


def block_lines(statements):
    """The lines of the statements behind an open brace."""
    lines = []
    for statement in statements:
        for line in statement_lines(statement):
            lines.append(INDENT + line)
    return lines


def statement_lines(statement):
    """The lines of a statement, as they stand where no brace is open."""
    if statement[0] == "if":
        return if_lines(statement)
    if statement[0] == "while":
        a, b, body = statement[2:]
        return [f"while {a} != {b} " + "{"] + block_lines(body) + ["}"]
    return [simple_text(statement) + ";"]


def if_lines(statement):
    """The lines of an if, without else where no has no statements."""
    a, b, yes, no = statement[2:]
    lines = [f"if {a} = {b} " + "{"] + block_lines(yes)
    if no:
        lines = lines + ["} else {"] + block_lines(no)
    return lines + ["}"]


def simple_text(statement):
    """The text of a statement without blocks, up to its semicolon."""
    if statement[0] == "store":
        address, field, value = statement[2:]
        return f"{address}.{FIELDS[field]} = {value}"
    if statement[0] == "free":
        return f"free {statement[2]}"
    return f"{statement[2]} = " + right_text(statement)


def right_text(statement):
    """The text of what the variable is set to."""
    if statement[0] == "set":
        return str(statement[3])
    if statement[0] == "load":
        address, field = statement[3:]
        return f"{address}.{FIELDS[field]}"
    if statement[0] == "new":
        first, second = statement[3:]
        return f"new({first}, {second})"
    name, actual = statement[3:]
    return f"{name}(" + ", ".join([str(operand) for operand in actual]) + ")"

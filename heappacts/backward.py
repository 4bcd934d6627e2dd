"""What must be before a run so that a formula is true after it."""

from heappacts.abduction import are_cells, are_unlike, numbers_of
from heappacts.applying import fit_cells, fits
from heappacts.checking import procedure_of
from heappacts.finding import contracts
from heappacts.ordering import Numbering, addresses_of, left_out, variables_in
from heappacts.placing import Placing
from heappacts.rules import variables
from heappacts.terms import put_all, words_of


def before(program, name, depth, turns, after):
    """A tuple of all needs for the formula to be true after a run."""
    many = len(procedure_of(program, name)[2])
    others = tuple(sorted([number for number in numbers_of(after) if number > many]))
    wanted = contract_of(after, many, others)
    found = []
    for number, contract in enumerate(contracts(program, name, depth, turns)):
        if contract[5] == "return":
            path = path_behind(contract, len(others))
            actual = contract[1] + (contract[6],) + path[1][many:]
            for new_path, _ in Placing(path, None).compose(wanted, actual):
                found.append(need_of(number, new_path, many, others))
    return tuple(found)


def path_behind(contract, many):
    """The path behind a contract that returns, with so many more variables as arguments."""
    arguments, needs, absent, differ = contract[1:5]
    own = variables_in(contract)
    more = tuple([("var", own + number) for number in range(many)])
    return ("path", arguments + more, needs, absent, differ, contract[7], (), own + many, contract[9], None, ())


def contract_of(after, many, others):
    """The contract that needs the formula's cells and has its pairs.

    Its arguments are those of the procedure, so many, the result, and the others.
    """
    answer = tuple([(old, ("var", many + 1 + number)) for number, old in enumerate(others)])
    cells, differ = [put_all(part, answer) for part in after[1:]]
    return ("contract", variables(many + 1 + len(others)), cells, (), differ, "return", None, (), (), 0)


def need_of(number, path, many, others):
    """The need that a path tells, with its variables numbered anew."""
    numbering = Numbering()
    pairs = left_out(path[4], addresses_of(path[2]), ())
    arguments = numbering.terms(path[1][:many])
    cells = numbering.rows(path[2])
    differ = numbering.rows(pairs)
    return ("need", number, arguments, cells, differ, tuple(zip(others, numbering.terms(path[1][many:]))))


def needs_met(need, actual, words, heap):
    """Whether the need is met by the arguments, the words of the others and the heap."""
    _, _, arguments, cells, differ, equal = need
    told = dict(words)
    table = {}
    terms = arguments + tuple([term for _, term in equal])
    if not fits(terms, actual + tuple([told[number] for number, _ in equal]), table, 0):
        return False
    return fit_cells(cells, table, heap) and are_unlike(differ, table)

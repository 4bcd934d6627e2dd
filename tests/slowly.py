"""The points of the document about composing, word for word and without any haste."""

import itertools

from heappacts.paths import possible
from heappacts.terms import solve


def moved(thing, variables, news):
    """A term, or a tuple of whatever has terms in it, numbered behind so many."""
    if thing and isinstance(thing[0], str):
        if thing[0] == "num":
            return thing
        return (thing[0], thing[1] + (variables if thing[0] == "var" else news))
    return tuple(moved(part, variables, news) for part in thing)


def put(thing, answer):
    if thing and isinstance(thing[0], str):
        return dict(answer).get(thing[1], thing) if thing[0] == "var" else thing
    return tuple(put(part, answer) for part in thing)


def numbers(thing):
    """All numbers of variables in a contract or a part of one."""
    if isinstance(thing, tuple):
        if len(thing) == 2 and thing[0] == "var":
            return [thing[1]]
        return [number for part in thing for number in numbers(part)]
    return []


def gone(path):
    addresses = [cell[0] for cell in path[2]] + [("new", k) for k in range(path[8])]
    return [address for address in addresses if address not in [cell[0] for cell in path[5]]]


def all_choices(needs, present):
    """Each needed cell at each present cell or missing, none taken twice, in the order of [c14]."""
    for choices in itertools.product(list(range(present)) + [-1], repeat=needs):
        taken = [choice for choice in choices if choice != -1]
        if len(set(taken)) == len(taken):
            yield choices


def composed(path, contract, actual):
    """A list of ((choices, answer, freed), new path, result) for each new path."""
    _, own, needs, absent, differ, present, names, variables, news, end, where = path
    many = max(numbers(contract), default=-1) + 1
    c_arguments, c_needs, c_absent, c_differ, c_gives = [
        moved(contract[k], variables, news) for k in (1, 2, 3, 4, 7)]
    found = []
    for choices in all_choices(len(c_needs), len(present)):
        equations = list(zip(actual, c_arguments))
        for cell, choice in zip(c_needs, choices):
            if choice != -1:
                equations += list(zip(present[choice], cell))
        places = [-1]
        if c_absent:
            places = list(range(len(gone(path)))) + [-1]
        for place in places:
            more = [] if place == -1 else [(gone(path)[place], c_absent[0])]
            answer = solve(tuple(equations + more))
            if answer is None:
                continue
            missing = tuple(cell for cell, choice in zip(c_needs, choices) if choice == -1)
            left = tuple(cell for k, cell in enumerate(present) if k not in choices)
            new_end = contract[5] if contract[5] != "return" else None
            new_path = ("path", put(own, answer), put(needs + missing, answer),
                        put(absent + (c_absent if place == -1 else ()), answer), put(differ + c_differ, answer),
                        put(left + c_gives, answer), tuple((name, put(term, answer)) for name, term in names),
                        variables + many, news + contract[9], "freed" if place != -1 else new_end, contract[8])
            result = None
            if contract[6] is not None and place == -1:
                result = put(moved(contract[6], variables, news), answer)
            if possible(new_path):
                found.append(((choices, answer, place), new_path, result))
    return found


def left_out(differ, addresses, absent):
    """The pairs that [c17] does not leave out."""
    kept, earlier = [], []
    for a, b in differ:
        certain = a != b and (
            (a[0] == "num" and b[0] == "num")
            or "new" in (a[0], b[0])
            or all(term == ("num", 0) or term in addresses for term in (a, b))
            or (a in absent and b in addresses)
            or (b in absent and a in addresses))
        if not certain and sorted((a, b)) not in earlier:
            kept.append((a, b))
        earlier.append(sorted((a, b)))
    return tuple(kept)


def in_order(path, result):
    """The contract of a path that has ended or come to the end of the body."""
    _, arguments, needs, absent, differ, present, _, _, news, end, where = path
    differ = left_out(differ, [cell[0] for cell in needs], absent)
    gives = present if end is None else ()
    result = result if end is None else None
    seen = []
    for number in numbers((arguments, needs, absent, differ, gives, result)):
        if number not in seen:
            seen.append(number)
    answer = tuple((old, ("var", number)) for number, old in enumerate(seen))
    return ("contract", put(arguments, answer), put(needs, answer), put(absent, answer), put(differ, answer),
            end or "return", None if result is None else put(result, answer), put(gives, answer), where,
            news if end is None else 0)


A, F, S, B = ("var", 0), ("var", 1), ("var", 2), ("var", 3)
RULES = {
    "there": lambda gives, result: ("contract", (A,), ((A, F, S),), (), (), "return", result, gives, (), 0),
    "missing": ("contract", (A,), (), (A,), ((A, ("num", 0)),), "missing", None, (), (), 0),
    "null": ("contract", (("num", 0),), (), (), (), "null", None, (), (), 0),
}


def statement_rules(statement):
    """The contracts of [c16], with other numbers of variables than the program has."""
    kind = statement[0]
    if kind == "load":
        return [RULES["there"](((A, F, S),), (F, S)[statement[4]]), RULES["missing"], RULES["null"]]
    if kind == "free":
        return [RULES["there"]((), None), RULES["missing"], RULES["null"]]
    if kind == "store":
        gives = (((A, B, S),), ((A, F, B),))[statement[3]]
        found = [RULES["there"](gives, None), RULES["missing"], RULES["null"]]
        return [contract[:1] + (contract[1] + (B,),) + contract[2:] for contract in found]
    if kind == "new":
        made = ("new", 0)
        return [("contract", (F, S), (), (), (), "return", made, ((made, F, S),), (), 1)]
    return [("contract", (A, A), (), (), (), "return", None, (), (), 0),
            ("contract", (A, F), (), (), ((A, F),), "return", None, (), (), 0)]


def operands_of(statement):
    kind = statement[0]
    return {"load": lambda: (statement[3],), "free": lambda: (statement[2],), "new": lambda: statement[3:5],
            "store": lambda: (statement[2], statement[4]), "call": lambda: statement[4]}.get(
                kind, lambda: statement[2:4])()


class Finder:
    """The contracts of [c17], by calls within calls; without any bounds."""

    def __init__(self, program, turns):
        self.program = {procedure[1]: procedure for procedure in program}
        self.turns = turns
        self.known = {}

    def contracts(self, name, depth):
        if (name, depth) not in self.known:
            self.known[(name, depth)] = tuple(
                in_order(path, self.term(path, self.program[name][4])) for path in self.paths(name, depth))
        return self.known[(name, depth)]

    def paths(self, name, depth):
        parameters = self.program[name][2]
        many = len(parameters)
        arguments = tuple(("var", k) for k in range(many))
        path = ("path", arguments, (), (), (), (), tuple(zip(parameters, arguments)), many, 0, None, ())
        return self.block(path, self.program[name][3], name, depth)

    def term(self, path, operand):
        return dict(path[6]).get(operand, ("num", 0)) if isinstance(operand, str) else ("num", operand)

    def block(self, path, statements, name, depth):
        if path[9] is not None or not statements:
            return [path]
        found = []
        for new in self.statement(path, statements[0], name, depth):
            found += self.block(new, statements[1:], name, depth)
        return found

    def setting(self, path, variable, term):
        names = dict(path[6])
        names[variable] = term
        return path[:6] + (tuple(names.items()),) + path[7:]

    def statement(self, path, statement, name, depth):
        kind, place = statement[:2]
        if kind == "set":
            return [self.setting(path, statement[2], self.term(path, statement[3]))]
        if kind == "while":
            return self.loop(path, statement, name, depth, self.turns)
        if kind == "if":
            same, unlike = self.compare(path, statement)
            return [new for branch, paths in ((statement[4], same), (statement[5], unlike)) for begun in paths
                    for new in self.block(begun, branch, name, depth)]
        if kind == "call":
            table = self.called(statement[3], depth - 1)
        else:
            table = statement_rules(statement)
        found = []
        for contract in table:
            actual = [self.term(path, operand) for operand in operands_of(statement)]
            for _, new, result in composed(path, contract, actual):
                if new[9] is not None:
                    new = new[:10] + (((name, place),) + new[10],)
                elif kind in ("load", "new", "call"):
                    new = self.setting(new, statement[2], result)
                found.append(new)
        return found

    def called(self, name, depth):
        if depth == 0:
            many = len(self.program[name][2])
            return (("contract", tuple(("var", k) for k in range(many)), (), (), (), "deep", None, (), (), 0),)
        return self.contracts(name, depth)

    def compare(self, path, statement):
        actual = [self.term(path, operand) for operand in statement[2:4]]
        return [[new for _, new, _ in composed(path, contract, actual)] for contract in statement_rules(statement)]

    def loop(self, path, statement, name, depth, left):
        same, unlike = self.compare(path, statement)
        found = list(same)
        for new in unlike:
            if left == 0:
                found.append(new[:9] + ("deep", ((name, statement[1]),)))
                continue
            for behind in self.block(new, statement[4], name, depth):
                found += [behind] if behind[9] is not None else self.loop(behind, statement, name, depth, left - 1)
        return found

"""Procedures in which something is left out, or changes places."""

from heappacts.checking import blocks, count, procedure_of
from heappacts.errors import TooMany
from heappacts.finding import Finder
from heappacts.sameness import are_alike, parted

KINDS = ("leave", "swap", "yes", "no")
SHORTER = ("leave", "yes", "no")
MOST_CHARACTERS = 8


def mended(procedure, mend):
    """The mended procedure; None if the mend cannot be made."""
    body = changed_block(procedure[3], mend)
    if body is None:
        return None
    return procedure[:3] + (numbered(body, 0)[0], procedure[4])


def changed_block(block, mend):
    """The block with the mend made in it or in a block within; None if it cannot be made."""
    for number, statement in enumerate(block):
        if statement[1] == mend[1]:
            return changed_at(block, number, mend[0])
        inner = changed_within(statement, mend)
        if inner is not None:
            return block[:number] + (inner,) + block[number + 1:]
    return None


def changed_within(statement, mend):
    """The statement with the mend made in one of its blocks; None if it cannot be made."""
    for number, block in enumerate(blocks(statement)):
        inner = changed_block(block, mend)
        if inner is not None:
            return statement[:4 + number] + (inner,) + statement[5 + number:]
    return None


def changed_at(block, number, kind):
    """The block with a mend made at its statement of this number; None if it cannot be made."""
    statement = block[number]
    before, behind = block[:number], block[number + 1:]
    if kind == "leave":
        return before + behind
    if kind == "swap" and behind:
        return before + (behind[0], statement) + behind[1:]
    if kind == "yes" and statement[0] == "if":
        return before + statement[4] + behind
    if kind == "no" and statement[0] == "if":
        return before + statement[5] + behind
    return None


def numbered(block, place):
    """The block with its places anew from this one on, and the place behind it."""
    found = []
    for statement in block:
        head, place = statement[:1] + (place,) + statement[2:], place + 1
        for number, inner in enumerate(blocks(statement)):
            row, place = numbered(inner, place)
            head = head[:4 + number] + (row,) + head[5 + number:]
        found.append(head)
    return tuple(found), place


def with_procedure(program, procedure):
    """The program with the procedure in the place of the one of its name."""
    return tuple([procedure if old[1] == procedure[1] else old for old in program])


def beside_it(program, procedure):
    """The program with the procedure, under another name, behind the one of its name."""
    found = []
    for old in program:
        found.append(old)
        if old[1] == procedure[1]:
            found.append(procedure[:1] + (other_name(old[1]),) + procedure[2:])
    return tuple(found)


def other_name(name):
    """The name under which a mended procedure is added."""
    return "z" + name[:MOST_CHARACTERS - 1]


def mends(program, name, depth, turns):
    """A tuple of all mends of the procedure that keep how it ends."""
    mender = Mender(Finder(program, turns), name, depth)
    return tuple([mend for mend in mender.all_mends(KINDS) if mender.keeps(mend)])


def trimmed(program, name, depth, turns):
    """The procedure after all mends that leave something out and keep how it ends."""
    finder = Finder(program, turns)
    shorter = first_shorter(finder, name, depth)
    while shorter is not None:
        finder = finder.changed(with_procedure(finder.program, shorter), name)
        shorter = first_shorter(finder, name, depth)
    return procedure_of(finder.program, name)


def first_shorter(finder, name, depth):
    """The procedure after its first mend that leaves something out and keeps how it ends; None without one."""
    mender = Mender(finder, name, depth)
    for mend in mender.all_mends(SHORTER):
        if mender.keeps(mend):
            return mended(mender.procedure, mend)
    return None


class Mender:
    """Looks which mends of a procedure keep how it ends."""

    def __init__(self, finder, name, depth):
        self.finder = finder
        self.depth = depth
        self.procedure = procedure_of(finder.program, name)

    def all_mends(self, kinds):
        """A list of the mends of these kinds to try, in order; none where nothing could be compared."""
        name = self.procedure[1]
        if procedure_of(self.finder.program, other_name(name)) is not None:
            return []
        try:
            self.finder.contracts_of(name, self.depth)
        except TooMany:
            return []
        return [(kind, place) for place in range(count(self.procedure[3])) for kind in kinds]

    def keeps(self, mend):
        """Whether the mend can be made, and keeps how the procedure ends."""
        procedure = mended(self.procedure, mend)
        if procedure is None:
            return False
        firsts = self.finder.contracts_of(self.procedure[1], self.depth)
        try:
            return parted(firsts, self.finder.contracts_with(procedure, self.depth), are_alike) is None
        except TooMany:
            return False

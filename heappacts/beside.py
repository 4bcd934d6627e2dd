"""Two procedures that are run beside each other on one heap."""

from itertools import combinations

from heappacts.checking import procedure_of
from heappacts.forking import ended_ways, tried
from heappacts.instances import Instance
from heappacts.machine import Memory
from heappacts.stepping import Machine
from heappacts.unknown import Unknown
from heappacts.walking import known_words

# what neither asks for anything nor touches a cell of which the other side can know
SILENT = ("set", "new", "return")


def run_beside(program, names, actuals, heap, mixing):
    """The outcome of a run of two procedures beside each other."""
    both = both_sides(Memory(actuals[0] + actuals[1], heap), program, names, actuals, mixing)
    both.go()
    return both.outcome()


def mixings(first, second):
    """A tuple of all tuples with so many 0 and so many 1, in rising order."""
    many = first + second
    rows = [[0 if place in zeros else 1 for place in range(many)] for zeros in combinations(range(many), first)]
    return tuple([tuple(row) for row in rows])


def independent(program, names):
    """None if all mixings always have one outcome; else the first that has another one than side 0 first."""
    return first_apart(program, names, ((),))


def serial(program, names):
    """None if each mixing always has an outcome of one behind the other; else the first that has not."""
    return first_apart(program, names, ((), (1,) * most_steps(procedure_of(program, names[1]))))


def first_apart(program, names, orders):
    """(actuals, heap, mixing) of the first way on which a mixing has the outcome of none of the orders."""
    procedures = [procedure_of(program, name) for name in names]
    first, second = [len(procedure[2]) for procedure in procedures]
    actuals = (known_words(0, first), known_words(first, second))
    silent = [silent_steps(procedure) for procedure in procedures]
    done = {}
    for mixing in mixings(most_steps(procedures[0]), most_steps(procedures[1])):
        core = core_of(mixing, silent)
        if core not in done:
            done[core] = True
            starts = tuple([side_by_side(program, names, actuals, order) for order in (mixing,) + orders])
            for course in ended_ways(starts, first + second):
                if how_it_ended(course, 0) not in [how_it_ended(course, 1 + k) for k in range(len(orders))]:
                    instance = Instance(course.asker)
                    return tuple([instance.words(actual) for actual in actuals]), instance.heap(), mixing
    return None


def side_by_side(program, names, actuals, mixing):
    """A function of an asker that begins a run of both."""
    def begin(asker):
        return both_sides(Unknown(asker), program, names, actuals, mixing)
    return begin


def both_sides(memory, program, names, actuals, mixing):
    """A run of both on the memory."""
    sides = [Machine(Side(memory, number), program, names[number], actuals[number], 1, 0) for number in (0, 1)]
    return Both(memory, sides, mixing)


class Side:
    """The memory of both sides as one of them has it, with new addresses of its own."""

    def __init__(self, memory, number):
        self.memory = memory
        self.number = number

    def forked(self, memory):
        """What is like this of another memory of both sides."""
        return Side(memory, self.number)

    def constant(self, number):
        """The word of a constant."""
        return self.memory.constant(number)

    def held(self):
        """A tuple of the cells that are there."""
        return self.memory.held()

    def same(self, a, b):
        """Whether two words are the same."""
        return self.memory.same(a, b)

    def cell_at(self, address):
        """The cell at the address and None, or None and how the side ends."""
        return self.memory.cell_at(address)

    def make(self, first, second):
        """The address of a new cell."""
        address = self.memory.new_address(self.number)
        self.number += 2
        return self.memory.make_at(address, first, second)


class Both:
    """A run of two sides on one memory."""

    def __init__(self, memory, sides, mixing):
        self.memory = memory
        self.sides = sides
        self.mixing = mixing
        self.place = 0

    def go(self):
        """Go on to the end of both, or up to a question without an answer, which is given."""
        side = self.next_side()
        while side is not None:
            question = tried(side)
            if question is not None:
                return question
            self.place += 1
            side = self.next_side()
        return None

    def next_side(self):
        """The side whose step is next, None if both have ended."""
        going = [number for number in (0, 1) if self.sides[number].ended is None]
        if not going:
            return None
        while self.place < len(self.mixing) and self.mixing[self.place] not in going:
            self.place += 1
        if self.place < len(self.mixing):
            return self.sides[self.mixing[self.place]]
        return self.sides[going[0]]

    def outcome(self):
        """The end and the result of each side, and the heap as the memory tells it."""
        return self.sides[0].ended[:2] + self.sides[1].ended[:2] + (self.memory.held(),)

    def forked(self, asker):
        """A run of its own that is like this one and asks another asker."""
        memory = self.memory.forked(asker)
        other = Both(memory, [side.forked(side.memory.forked(memory)) for side in self.sides], self.mixing)
        other.place = self.place
        return other


def how_it_ended(course, number):
    """The outcome of the course's run of this number; words that may be unlike are unlike."""
    outcome = course.outcomes[number]
    results = [None if result is None else course.asker.stands(result) for result in (outcome[1], outcome[3])]
    return (outcome[0], results[0], outcome[2], results[1], course.heap_behind(number, outcome[4]))


def most_steps(procedure):
    """The greatest number of steps of a procedure without calls and loops."""
    return max([len(kinds) for kinds in runs_of(procedure[3])]) + 1


def runs_of(statements):
    """A list of the kinds of the statements of each run through them, a list for each."""
    found = [[]]
    for statement in statements:
        behind = [[statement[0]]]
        if statement[0] == "if":
            behind = [[statement[0]] + kinds for branch in statement[4:6] for kinds in runs_of(branch)]
        found = [before + kinds for before in found for kinds in behind]
    return found


def core_of(mixing, silent):
    """The mixing without the steps that are silent in all runs of their side, as the rows of both tell.

    Such steps are the same whenever they are made, and so are the others, so mixings
    with one core have the same questions and outcomes.
    """
    made = [0, 0]
    core = []
    for side in mixing:
        if not silent[side][made[side]]:
            core.append(side)
        made[side] += 1
    return tuple(core)


def silent_steps(procedure):
    """For each step whether it is a silent one in all runs, made or not."""
    rows = [kinds + ["return"] for kinds in runs_of(procedure[3])]
    return [all([row[number] in SILENT for row in rows if number < len(row)])
            for number in range(most_steps(procedure))]

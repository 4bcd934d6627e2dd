"""Runs on unknown words that go both ways at each question, so that each step is made once."""

from heappacts.asking import MOST_WAYS, Asked, Asker
from heappacts.errors import TooMany
from heappacts.stepping import Machine
from heappacts.unknown import Unknown, outcome_of


def tried(machine):
    """Make one step of a machine; the question without an answer that keeps it from that, or None.

    A question is asked before anything is changed but for the work.
    """
    frame = machine.frames[-1]
    work = frame.work
    try:
        machine.advance()
    except Asked as asked:
        frame.work = work
        machine.steps -= 1
        return asked.question
    return None


class Lone:
    """A run of one procedure."""

    def __init__(self, machine):
        self.machine = machine

    def go(self):
        """Go on to the end, or up to a question without an answer, which is given."""
        while self.machine.ended is None:
            question = tried(self.machine)
            if question is not None:
                return question
        return None

    def outcome(self):
        """What run_unknown gives of the run."""
        return outcome_of(self.machine)

    def forked(self, asker):
        """A run of its own that is like this one and asks another asker."""
        return Lone(self.machine.forked(self.machine.memory.forked(asker)))


def alone(program, name, actual, depth, turns):
    """A function of an asker that begins a run of the procedure."""
    def begin(asker):
        return Lone(Machine(Unknown(asker), program, name, actual, depth, turns))
    return begin


class Course:
    """Runs one behind the other on one unknown start, as far as the answers go.

    starts: functions of an asker, each of which begins a run. outcomes: what the
    runs that have ended gave; known: how many cells of the start were known then.
    """

    def __init__(self, asker, starts):
        self.asker = asker
        self.starts = starts
        self.outcomes = ()
        self.known = ()
        self.current = None

    def go(self):
        """Go on to the end of all runs, or up to a question without an answer, which is given."""
        while len(self.outcomes) < len(self.starts):
            if self.current is None:
                begin = self.starts[len(self.outcomes)]
                self.current = begin(self.asker)
            question = self.current.go()
            if question is not None:
                return question
            self.outcomes = self.outcomes + (self.current.outcome(),)
            self.known = self.known + (len(self.asker.cells),)
            self.current = None
        return None

    def forked(self, answer):
        """A course of its own that is like this one, with one more answer to come."""
        other = Course(self.asker.forked(answer), self.starts)
        other.outcomes = self.outcomes
        other.known = self.known
        other.current = self.current.forked(other.asker)
        return other

    def standing(self, terms):
        """A tuple of the words that stand for the terms."""
        return tuple([self.asker.stands(term) for term in terms])

    def heap_behind(self, number, cells):
        """The heap behind the run of this number, which held the cells at its end, in any one order.

        What later runs came to know of the start was there too, and unchanged.
        """
        there = cells + self.asker.cells[self.known[number]:]
        return tuple(sorted([self.standing(cell) for cell in there]))


def all_ways(starts, count):
    """A list of pairs (question, course), in the order in which the ways go, yes before no.

    One for each question, and one for each course that has come to its end, with
    None for the question. Raises TooMany where explore does.
    """
    found = []
    waiting = [Course(Asker(count, ()), starts)]
    ended = 0
    while waiting:
        course = waiting.pop()
        question = course.go()
        found.append((question, course))
        if question is None:
            ended += 1
        else:
            waiting.append(course.forked(False))
            waiting.append(course.forked(True))
        if ended + len(waiting) > MOST_WAYS:
            raise TooMany()
    return found


def ended_ways(starts, count):
    """A list of the courses of all_ways that have come to their ends."""
    return [course for question, course in all_ways(starts, count) if question is None]

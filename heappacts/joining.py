"""Terms that equations make one, and what may not become one."""

from heappacts.terms import replacement

# what a term has been found to be, as bits of a number
NEEDED = 1  # the address of a needed cell
BARRED = 2  # 0 or an absent address: no needed cell can be there
OLD = 4  # a word from before the run: no new address


class Joined:
    """The equations of a beginning of choices, and what a path must not come to be.

    Everything that is not possible stays so however the choices go on, so it is
    refused at once. What is written down is logged, and can be taken back.
    """

    def __init__(self, path):
        arguments, needs, absent, differ = path[1:5]
        self.table = {}
        self.marks = {("num", 0): BARRED}
        # of variables alone, as nothing else is ever replaced
        self.apart = {}
        self.log = []
        # the path is possible, so nothing has to be asked, and nothing of this is taken back
        for term in arguments:
            self.marks[term] = self.marks.get(term, 0) | OLD
        for address, first, second in needs:
            self.marks[address] = NEEDED | OLD
            self.marks[first] = self.marks.get(first, 0) | OLD
            self.marks[second] = self.marks.get(second, 0) | OLD
        for term in absent:
            self.marks[term] = self.marks.get(term, 0) | OLD | BARRED
        for a, b in differ:
            if a[0] == "var":
                self.apart[a] = self.apart.get(a, ()) + (b,)
            if b[0] == "var":
                self.apart[b] = self.apart.get(b, ()) + (a,)

    def write(self, table, key, value):
        """Put the value into one of the tables, and log what was there."""
        self.log.append((table, key, table.get(key)))
        table[key] = value

    def take_back(self, written):
        """Undo all but the first so many things that were logged."""
        while len(self.log) > written:
            table, key, before = self.log.pop()
            if before is None:
                del table[key]
            else:
                table[key] = before

    def stands(self, term):
        """The term that stands in the place of the term."""
        while term[0] == "var" and term[1] in self.table:
            term = self.table[term[1]]
        return term

    def mark(self, term, bits):
        """Write down what the term, which stands for itself, has been found to be."""
        self.write(self.marks, term, self.marks.get(term, 0) | bits)

    def settle(self, a, b):
        """Solve one more equation, a being a term of the contract; whether that can be."""
        if a[0] == "var" and a[1] not in self.table:
            # a variable of which nothing has been found
            self.write(self.table, a[1], self.stands(b))
            return True
        return self.unite(a, b)

    def unite(self, a, b):
        """Solve one more equation; whether that can be."""
        left, right = self.stands(a), self.stands(b)
        if left == right:
            return True
        if left[0] != "var" and right[0] != "var":
            return False
        number, term = replacement(left, right)
        old = ("var", number)
        bits = self.marks.get(old, 0)
        if term[0] == "num":
            # a constant is an old word without a mark
            bits = bits & (NEEDED | BARRED)
        if bits and self.clash(bits, term):
            return False
        if old in self.apart:
            if self.are_apart(old, term):
                return False
            if term[0] == "var":
                self.write(self.apart, term, self.apart.get(term, ()) + self.apart[old])
        self.write(self.table, number, term)
        if bits:
            self.mark(term, bits)
        return True

    def clash(self, bits, term):
        """Whether something that is so cannot be the term."""
        if term[0] == "new":
            return (bits & OLD) > 0
        others = self.marks.get(term, 0)
        if bits & NEEDED:
            return (others & (NEEDED | BARRED)) > 0
        return (bits & BARRED) > 0 and (others & NEEDED) > 0

    def are_apart(self, a, b):
        """Whether the two terms, which stand for themselves, are a pair."""
        for other in self.apart.get(a, ()):
            if self.stands(other) == b:
                return True
        return False

    def part(self, a, b):
        """Write down a pair; whether it can be unlike."""
        left, right = self.stands(a), self.stands(b)
        if left == right:
            return False
        if left[0] == "var":
            self.write(self.apart, left, self.apart.get(left, ()) + (right,))
        if right[0] == "var":
            self.write(self.apart, right, self.apart.get(right, ()) + (left,))
        return True

    def need(self, cell):
        """Write down one more needed cell; whether it can be."""
        address, first, second = [self.stands(term) for term in cell]
        if self.marks.get(address, 0) & (NEEDED | BARRED) or "new" in (address[0], first[0], second[0]):
            return False
        self.mark(address, NEEDED | OLD)
        self.mark(first, OLD)
        self.mark(second, OLD)
        return True

    def can_be_absent(self, term):
        """Whether the term can be an address at which there was no cell."""
        left = self.stands(term)
        return left[0] != "new" and (self.marks.get(left, 0) & NEEDED) == 0

    def answer(self):
        """A dict: by the number of each variable that is replaced, the term that stands in its place."""
        return {number: self.stands(self.table[number]) for number in self.table}

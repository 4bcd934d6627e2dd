import unittest

from drawn import Terms
from heappacts.comparing import same_path, unlike_path
from heappacts.paths import possible
from heappacts.placing import compose
from heappacts.rules import rules
from helpers import Case, new, num, var

SAME, UNLIKE = rules(("if", 0, "a", "b", (), ()))


class Compared(Case):
    """What a comparison gives is what composing with its two contracts gives."""

    def check_compared(self, path, a, b):
        counts = []
        for contract, found in ((SAME, same_path(path, a, b)), (UNLIKE, unlike_path(path, a, b))):
            expected = [made for made, _ in compose(path, contract, (a, b))]
            self.exact([] if found is None else [found], expected, (path, a, b))
            counts.append(len(expected))
        return tuple(counts)

    def path(self, arguments=(), needs=(), absent=(), differ=(), present=(), names=(), variables=6, news=2):
        return ("path", arguments, needs, absent, differ, present, names, variables, news, None, ())

    def test_terms(self):
        path = self.path((var(0), var(1)), names=(("x", var(1)), ("y", new(0)), ("z", num(3))))
        for a, b, expected in ((var(0), var(0), (1, 0)), (var(0), var(1), (1, 1)), (var(1), var(0), (1, 1)),
                               (var(0), num(3), (1, 1)), (num(3), var(1), (1, 1)), (num(3), num(3), (1, 0)),
                               (num(3), num(4), (0, 1)), (new(0), new(1), (0, 1)), (new(1), new(1), (1, 0)),
                               (new(0), num(0), (0, 1)), (new(0), var(1), (0, 1)), (var(3), new(0), (1, 1))):
            self.exact(self.check_compared(path, a, b), expected, (a, b))

    def test_what_the_path_says(self):
        x, y, z = var(0), var(1), var(2)
        path = self.path((x,), ((x, y, z), (y, z, z)), (), ((z, num(5)),), ((x, z, z), (new(0), x, y)))
        for a, b, expected in ((x, y, (0, 1)), (x, num(0), (0, 1)), (num(0), y, (0, 1)), (z, num(5), (0, 1)),
                               (num(5), z, (0, 1)), (z, x, (1, 1)), (z, num(0), (1, 1)), (z, new(0), (0, 1)),
                               (num(4), z, (1, 1)), (x, num(7), (1, 1))):
            self.exact(self.check_compared(path, a, b), expected, (a, b))
        path = self.path((x, y), ((x, z, z),), (y,))
        for a, b, expected in ((x, y, (0, 1)), (y, x, (0, 1)), (y, z, (1, 1)), (x, z, (1, 1)), (y, num(0), (1, 1)),
                               (y, new(1), (0, 1))):
            self.exact(self.check_compared(path, a, b), expected, (a, b))

    def test_drawn(self):
        counts = {}
        for seed in range(4000):
            drawer = Terms(seed)
            path = drawer.path()
            if possible(path):
                found = self.check_compared(path, drawer.term(path[7], path[8]), drawer.term(path[7], path[8]))
                counts[found] = counts.get(found, 0) + 1
        for expected in ((1, 1), (1, 0), (0, 1)):
            self.assertGreater(counts[expected], 100)


if __name__ == "__main__":
    unittest.main()

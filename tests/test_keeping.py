import unittest

from drawn import Drawer, variant
from heappacts.checking import procedure_of
from heappacts.errors import TooMany
from heappacts.finding import contracts
from heappacts.keeping import Keeper
from heappacts.mending import with_procedure
from heappacts.parsing import parse
from heappacts.rules import deep_contract
from helpers import Case
from samples import PROGRAM, SAMPLES


def many(limit):
    """Statements that make a procedure of x and y with so many times so many contracts."""
    return "".join(f"if x = {number} {{ }} if y = {number} {{ }} " for number in range(1, limit))


TEXT = {
    "a": "procedure a(x) { y = x.first; return y; } ",
    "b": "procedure b(x) { y = a(x); return y; } ",
    "c": "procedure c(x) { y = a(x); z = b(x); return z; } ",
    "d": "procedure d(x) { y = 1; return x; } ",
    "e": "procedure e(x) { if x = 0 { y = 1; } else { x = x.second; y = e(x); } return y; } ",
}


class Kept(Case):
    def keeper(self, names="abcde"):
        return Keeper(parse("".join(TEXT[name] for name in names)))

    def asks(self, keeper, name, found, depth=3, turns=0):
        """The contracts are those of the program as it is, and so many lists were found for that."""
        before = keeper.found
        self.exact(keeper.contracts(name, depth, turns), contracts(keeper.program, name, depth, turns))
        self.exact(keeper.found - before, found, (name, depth, turns))

    def change(self, keeper, text):
        """Change the procedure that the text tells; nothing is found by that."""
        (procedure,) = parse(text)
        expected = with_procedure(keeper.program, procedure)
        before = keeper.found
        keeper.change(procedure)
        self.exact((keeper.program, keeper.found), (expected, before))


class Start(Kept):
    def test_fields(self):
        keeper = self.keeper()
        self.exact((keeper.program, keeper.found), (parse("".join(TEXT.values())), 0))
        self.exact((Keeper(()).program, Keeper(()).found), ((), 0))

    def test_samples(self):
        keeper = Keeper(PROGRAM)
        for name, depth, turns in SAMPLES * 2:
            self.exact(keeper.contracts(name, depth, turns), contracts(PROGRAM, name, depth, turns))


class Unchanged(Kept):
    def test_nothing_is_found_again(self):
        keeper = self.keeper()
        self.asks(keeper, "a", 1, 1)
        for _ in range(3):
            self.asks(keeper, "a", 0, 1)

    def test_what_is_called(self):
        keeper = self.keeper()
        # c at 3, a at 2, b at 2, a at 1
        self.asks(keeper, "c", 4)
        self.asks(keeper, "c", 0)
        self.asks(keeper, "b", 0, 2)
        self.asks(keeper, "a", 0, 2)
        self.asks(keeper, "a", 0, 1)
        self.asks(keeper, "a", 1, 3)
        self.asks(keeper, "b", 1, 3)

    def test_the_depth_0_does_not_count(self):
        keeper = self.keeper()
        self.asks(keeper, "b", 1, 1)
        self.asks(keeper, "c", 1, 1)
        self.asks(keeper, "a", 1, 1)

    def test_other_turns(self):
        keeper = self.keeper()
        self.asks(keeper, "b", 2, 2, 0)
        self.asks(keeper, "b", 2, 2, 1)
        self.asks(keeper, "b", 0, 2, 0)

    def test_one_that_calls_itself(self):
        keeper = self.keeper()
        self.asks(keeper, "e", 1, 1)
        self.asks(keeper, "e", 2, 3)
        self.asks(keeper, "e", 1, 4)
        self.asks(keeper, "e", 0, 2)

    def test_the_depth_0(self):
        keeper = self.keeper()
        self.exact(keeper.contracts("a", 0, 0), (deep_contract(1),))
        self.exact(keeper.found, 0)


class Changed(Kept):
    def test_one_that_others_call(self):
        keeper = self.keeper()
        self.asks(keeper, "c", 4)
        self.change(keeper, "procedure a(x) { y = x.second; return y; }")
        self.asks(keeper, "d", 1)
        self.asks(keeper, "c", 4)
        self.asks(keeper, "c", 0)

    def test_one_that_is_not_called(self):
        keeper = self.keeper()
        self.asks(keeper, "c", 4)
        self.change(keeper, "procedure d(x) { return 0; }")
        self.change(keeper, "procedure e(x) { return 0; }")
        self.asks(keeper, "c", 0)
        self.asks(keeper, "d", 1)

    def test_one_in_the_middle(self):
        keeper = self.keeper()
        self.asks(keeper, "c", 4)
        self.change(keeper, "procedure b(x) { y = a(x); return 0; }")
        # b at 2 and c at 3
        self.asks(keeper, "c", 2)
        self.asks(keeper, "a", 0, 2)

    def test_one_that_has_the_same_contracts(self):
        keeper = self.keeper()
        self.asks(keeper, "c", 4)
        self.change(keeper, "procedure a(x) { y = x.first; z = y; return z; }")
        # a at 1 and at 2
        self.asks(keeper, "c", 2)
        self.asks(keeper, "c", 0)

    def test_one_that_ends_elsewhere(self):
        keeper = self.keeper()
        self.asks(keeper, "c", 4)
        # the same but for where, which its callers tell too
        self.change(keeper, "procedure a(x) { z = 1; y = x.first; return y; }")
        self.asks(keeper, "c", 4)

    def test_changed_and_changed_back(self):
        keeper = self.keeper()
        self.asks(keeper, "c", 4)
        self.change(keeper, "procedure a(x) { return 7; }")
        self.change(keeper, TEXT["a"])
        self.asks(keeper, "c", 0)
        self.change(keeper, "procedure a(x) { return 7; }")
        self.asks(keeper, "c", 4)
        self.change(keeper, TEXT["a"])
        # one list alone is kept for a procedure and its limits
        self.asks(keeper, "c", 4)

    def test_changed_back_and_asked_in_part(self):
        keeper = self.keeper()
        self.asks(keeper, "c", 4)
        self.change(keeper, "procedure a(x) { return 7; }")
        self.asks(keeper, "a", 1, 1)
        self.change(keeper, TEXT["a"])
        # a at 1 again; what was found with it is as it was
        self.asks(keeper, "c", 1)

    def test_to_what_it_is(self):
        keeper = self.keeper()
        self.asks(keeper, "c", 4)
        self.change(keeper, TEXT["b"])
        self.asks(keeper, "c", 0)

    def test_another_call(self):
        keeper = self.keeper("abcd")
        self.asks(keeper, "b", 2, 2)
        self.change(keeper, "procedure b(x) { y = b(x); return y; }")
        self.asks(keeper, "b", 2, 2)
        self.change(keeper, "procedure b(x) { y = 1; return y; }")
        self.asks(keeper, "b", 1, 2)

    def test_one_that_calls_itself(self):
        keeper = self.keeper()
        self.asks(keeper, "e", 3, 3)
        self.change(keeper, "procedure e(x) { if x = 0 { y = 2; } else { x = x.second; y = e(x); } return y; }")
        self.asks(keeper, "e", 3, 3)

    def test_other_limits_are_brought_up_when_they_are_asked(self):
        keeper = self.keeper()
        for depth in (1, 2, 3):
            self.asks(keeper, "a", 1, depth)
        self.change(keeper, "procedure a(x) { return 7; }")
        self.asks(keeper, "a", 1, 2)
        self.asks(keeper, "a", 1, 1)
        self.asks(keeper, "a", 1, 3)

    def test_what_was_handed_in_stays(self):
        program = parse(TEXT["a"] + TEXT["b"])
        keeper = Keeper(program)
        keeper.change(parse("procedure a(x) { return 1; }")[0])
        keeper.contracts("b", 2, 0)
        self.exact(program, parse(TEXT["a"] + TEXT["b"]))
        self.exact(Keeper(program).program, program)

    def test_drawn(self):
        changes = 0
        for seed in range(150):
            drawer = Drawer(seed, 7)
            keeper = Keeper(drawer.program())
            for _ in range(6):
                name = drawer.random.choice(keeper.program)[1]
                depth, turns = drawer.random.randint(1, 3), drawer.random.randint(0, 1)
                try:
                    expected = contracts(keeper.program, name, depth, turns)
                except TooMany:
                    self.fault(TooMany, {}, keeper.contracts, name, depth, turns)
                else:
                    self.exact(keeper.contracts(name, depth, turns), expected, seed)
                if drawer.random.random() < 0.6:
                    old = drawer.random.choice(keeper.program)
                    if old[3]:
                        keeper.change(variant(drawer, old, old[1]))
                        changes += 1
        self.assertGreater(changes, 300)


class Many(Kept):
    def test_what_is_beneath_is_kept(self):
        program = parse("procedure a(x, y) { x = x.first; return x; } procedure b(x, y) { z = a(x, y); "
                        + many(14) + "return z; } procedure c(x, y) { z = a(x, y); z = b(x, y); return z; }")
        keeper = Keeper(program)
        for _ in range(2):
            self.fault(TooMany, {}, keeper.contracts, "b", 2, 0)
            self.exact(keeper.found, 1)
        self.asks(keeper, "a", 0, 1)
        # a at 2, then b at 2
        self.fault(TooMany, {}, keeper.contracts, "c", 3, 0)
        self.exact(keeper.found, 2)
        self.change(keeper, "procedure b(x, y) { z = a(x, y); return z; }")
        self.asks(keeper, "c", 2)

    def test_it_is_not_kept_itself(self):
        keeper = Keeper(parse("procedure a(x, y) { " + many(14) + " return 0; }"))
        for _ in range(3):
            self.fault(TooMany, {}, keeper.contracts, "a", 1, 0)
        self.exact(keeper.found, 0)
        self.change(keeper, "procedure a(x, y) { return 0; }")
        self.asks(keeper, "a", 1, 1)
        self.change(keeper, "procedure a(x, y) { " + many(14) + " return 0; }")
        self.fault(TooMany, {}, keeper.contracts, "a", 1, 0)
        self.exact(keeper.found, 1)
        self.change(keeper, "procedure a(x, y) { return 1; }")
        self.asks(keeper, "a", 1, 1)

    def test_once_in_a_call(self):
        """However often a list is called for, it is looked at once."""
        text = "procedure a(x) { return x; } "
        for name, other in zip("bcdefgh", "abcdefg"):
            text += f"procedure {name}(x) {{ y = {other}(x); y = a(x); y = {other}(y); return y; }} "
        keeper = Keeper(parse(text))
        self.asks(keeper, "h", 7, 4)
        self.asks(keeper, "h", 0, 4)
        self.exact(procedure_of(keeper.program, "h")[3][0][3], "g")


if __name__ == "__main__":
    unittest.main()

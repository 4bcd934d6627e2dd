"""Procedures that several test files look at."""

from heappacts.parsing import parse

PROGRAM = parse("""
procedure drop(x) { free x; y = x.first; return y; }

procedure swap(x, y) {
    a = x.first;
    b = y.first;
    x.first = b;
    y.first = a;
    return a;
}

procedure walk(x) { while x != 0 { x = x.second; } return x; }

procedure push(x, y) { z = new(y, x); return z; }

procedure turned(x) {
    y = 0;
    while x != 0 { z = x.second; x.second = y; y = x; x = z; }
    return y;
}

procedure freeall(x) { while x != 0 { y = x.second; free x; x = y; } return 0; }

procedure pair(x, y) {
    a = push(0, x);
    b = push(a, y);
    if x = y { free a; return_ = 1; }
    return b;
}

procedure both(x, y) { a = drop(x); b = drop(y); return b; }
""".replace("return_", "r"))

# (name, depth, turns) with not too many contracts
SAMPLES = tuple((name, depth, turns) for name, depth, turns in (
    ("drop", 1, 0), ("swap", 1, 0), ("walk", 1, 0), ("walk", 1, 2), ("push", 1, 0), ("turned", 1, 0), ("turned", 1, 2),
    ("freeall", 1, 1), ("freeall", 1, 3), ("pair", 1, 0), ("pair", 2, 0), ("both", 1, 0), ("both", 2, 0)))

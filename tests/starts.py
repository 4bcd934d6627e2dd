"""Arguments and heaps near the examples of contracts."""


def valued(found, words):
    """Arguments, needed cells of a contract as a heap, absent addresses; None if it is no heap."""
    def word(term):
        return words[term[1]] if term[0] == "var" else term[1]
    heap = sorted(tuple(word(term) for term in cell) for cell in found[2])
    addresses = [cell[0] for cell in heap]
    if 0 in addresses or len(set(addresses)) < len(addresses):
        return None
    absent = [word(term) for term in found[3]]
    return tuple(word(term) for term in found[1]), tuple(heap), absent


def around(drawer, made, words):
    """Arguments and heaps near a contract: its own, with further cells, without one, with one where none is."""
    start = valued(made, words)
    if start is None:
        return
    actual, heap, absent = start
    yield actual, heap
    there = [cell[0] for cell in heap]
    further = [(word,) + drawer.words(2, words) for word in (3, 50, 9000) if word not in there + absent]
    yield actual, tuple(sorted(heap + tuple(further)))
    if heap:
        lost = drawer.random.choice(heap)
        yield actual, tuple(cell for cell in heap if cell != lost)
        yield actual, tuple(sorted([cell for cell in heap if cell != lost] + further))
    for word in absent:
        if word != 0 and word not in there:
            yield actual, tuple(sorted(heap + ((word,) + drawer.words(2, words),)))
    if len(actual) > 1:
        yield (actual[0],) * len(actual), heap


def variables_of(made):
    """How many variables the arguments and the needed cells of a contract have."""
    return 1 + max([0] + [term[1] for cell in made[2] for term in cell if term[0] == "var"]
                   + [term[1] for term in made[1] if term[0] == "var"])


def own(made):
    """The arguments and the heap of the example of a contract."""
    return valued(made, tuple(range(100, 100 + variables_of(made))))[:2]


def near(drawer, made):
    """Arguments and heaps near a contract, for its example and for drawn words."""
    many = variables_of(made)
    example = tuple(range(100, 100 + many))
    for words in (example, drawer.words(many, (1, 2, 3, 100)), drawer.words(many, (0, 1, 7, 101)),
                  drawer.words(many, example), drawer.words(many, example)):
        yield from around(drawer, made, words)

"""Cells to which nothing leads any more."""


def sure(contract):
    """A tuple of the addresses of given cells that are surely lost."""
    gives = contract[7]
    old = [cell[0] for cell in gives if cell[0][0] != "new"]
    held = reached_from(roots(contract) + old, gives)
    return tuple(cell[0] for cell in gives if cell[0][0] == "new" and cell[0] not in held)


def perhaps(contract):
    """A tuple of the addresses of given cells that are lost unless something else leads to them."""
    gives = contract[7]
    lost = sure(contract)
    held = reached_from(roots(contract), gives)
    return tuple(cell[0] for cell in gives if cell[0] not in lost and cell[0] not in held)


def losing(contracts):
    """A tuple of the numbers of the contracts with a cell that is surely lost."""
    return tuple(number for number, contract in enumerate(contracts) if sure(contract))


def still_held(heap, words):
    """A tuple of the addresses of the heap's cells that are reached from the words, rising."""
    held = reached_from(words, heap)
    return tuple(cell[0] for cell in heap if cell[0] in held)


def roots(contract):
    """A list of the result and the arguments of a contract."""
    return [contract[6], *contract[1]]


def reached_from(words, cells):
    """A dict of what is reached from the words, or terms, through the cells."""
    fields = {cell[0]: cell[1:] for cell in cells}
    held = {}
    waiting = list(words)
    while waiting:
        word = waiting.pop()
        if word not in held:
            held[word] = True
            waiting.extend(fields.get(word, ()))
    return held

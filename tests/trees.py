"""Trees of questions in the tests: their leaves with the ways to them, and trees with one leaf changed."""


def ways(tree):
    """A list of (answers, node) for what is no question, from the left to the right."""
    found, waiting = [], [((), tree)]
    while waiting:
        answers, node = waiting.pop()
        if node[0] in ("same", "cell"):
            waiting.append((answers + (False,), node[-1]))
            waiting.append((answers + (True,), node[-2]))
        else:
            found.append((answers, node))
    return found


def at(tree, answers):
    """The node to which the answers lead."""
    for answer in answers:
        tree = tree[-2] if answer else tree[-1]
    return tree


def with_node(tree, answers, node):
    """The tree with the node in the place to which the answers lead."""
    nodes = [at(tree, answers[:number]) for number in range(len(answers))]
    for old, answer in zip(reversed(nodes), reversed(answers)):
        node = old[:-2] + ((node, old[-1]) if answer else (old[-2], node))
    return node


def loose(contract):
    """The contract but for the orders of pairs, of the terms of a pair, and of the given cells."""
    return contract[:4] + (frozenset(frozenset(pair) for pair in contract[4]),) + contract[5:7] \
        + (frozenset(contract[7]),) + contract[8:]

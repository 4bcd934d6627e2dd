"""Trees of questions: how they are found, and the way through them."""

from heappacts.checking import procedure_of
from heappacts.forking import all_ways, alone
from heappacts.ordering import put_in_order
from heappacts.terms import is_term


def tree(program, name, depth, turns):
    """The tree of the questions of the procedure's run on unknown words."""
    actual = known_words(0, len(procedure_of(program, name)[2]))
    made = []
    for question, course in reversed(all_ways((alone(program, name, actual, depth, turns),), len(actual))):
        if question is None:
            made.append(("leaf", contract_of(course.asker, actual, course.outcomes[0])))
        else:
            # behind a question all of its yes comes first, so it was made last
            yes = made.pop()
            no = made.pop()
            made.append(question + (yes, no))
    return made[0]


def known_words(first, many):
    """A tuple of so many known words, from the first one on."""
    return tuple([("known", first + number) for number in range(many)])


def contract_of(asker, actual, outcome):
    """The contract of a way to the end of a run with these arguments."""
    end, result, cells, where, at, news = outcome
    absent = () if at is None else (at,)
    arguments, needs, absent, pairs, gives = [
        variables_for(asker, things) for things in (actual, asker.cells, absent, asker.pairs, cells)]
    if end == "return":
        end, result = None, variable_for(asker, result)
    return put_in_order(("path", arguments, needs, absent, pairs, gives, (), asker.many, news, end, where), result)


def variable_for(asker, term):
    """The variable for a known word, with the number of the one that stands for it; else the term."""
    word = asker.stands(term)
    if word[0] == "known":
        return ("var", word[1])
    return word


def variables_for(asker, things):
    """The terms, cells or pairs with variables for known words."""
    found = []
    for thing in things:
        if is_term(thing):
            found.append(variable_for(asker, thing))
        else:
            found.append(tuple([variable_for(asker, term) for term in thing]))
    return tuple(found)


def walk(tree, actual, heap):
    """The contract of the leaf to which the arguments and the heap lead; None at a never."""
    return followed(tree, actual, heap)[0]


def asked(tree, actual, heap):
    """How many questions are answered on the way to the leaf."""
    return followed(tree, actual, heap)[1]


def followed(node, actual, heap):
    """What walk and asked give."""
    words = list(actual)
    cells = {cell[0]: cell for cell in heap}
    many = 0
    while node[0] in ("same", "cell"):
        many += 1
        address = word_of(node[1], words)
        if node[0] == "same":
            answer = address == word_of(node[2], words)
        else:
            answer = address in cells
            words.extend(cells.get(address, ())[1:])
        node = node[-2] if answer else node[-1]
    if node[0] == "never":
        return None, many
    return node[1], many


def word_of(term, words):
    """The word of a constant or of a known word."""
    return words[term[1]] if term[0] == "known" else term[1]


def leaves(tree):
    """A tuple of the contracts of the leaves, from the left to the right."""
    found = []
    waiting = [tree]
    while waiting:
        node = waiting.pop()
        if node[0] == "leaf":
            found.append(node[1])
        elif node[0] != "never":
            waiting.append(node[-1])
            waiting.append(node[-2])
    return tuple(found)

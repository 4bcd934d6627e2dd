"""What the document says of comparisons, sayings and needs, word for word and without any haste."""

import itertools

from heappacts.asking import explore
from heappacts.errors import TooMany
from heappacts.finding import contracts
from slowly import composed, left_out, numbers, put


def renumbered(things):
    """Numbers for the variables of the things, from 0 on, in the order in which they occur first."""
    seen = []
    for number in numbers(things):
        if number not in seen:
            seen.append(number)
    return tuple((old, ("var", number)) for number, old in enumerate(seen))


def given(things, answer):
    """The terms as words: ("var", k) is 100 + its new number."""
    def word(term):
        return 100 + term[1] if term[0] == "var" else term[1]
    return [tuple(word(term) for term in row) for row in put(things, answer)]


def example_of(path):
    answer = renumbered((path[1], path[2]))
    (actual,) = given((path[1],), answer)
    return actual, tuple(sorted(given(path[2], answer)))


def cases(firsts, seconds, alike):
    """The first new path that is not alike, as an example; None; TooMany behind 1,500 of them."""
    count = 0
    for contract in firsts:
        _, arguments, needs, absent, differ, end, result, gives, _, _ = contract
        path = ("path", arguments, needs, absent, differ, needs, (), max(numbers(contract), default=-1) + 1, 0, None, ())
        for other in seconds:
            for way, new, told in composed(path, other, arguments):
                count += 1
                if count > 1500:
                    raise TooMany()
                first = (end, None if end != "return" else put(result, way[1]), put(gives, way[1]) + new[2][len(needs):])
                if not alike(first, (new[9] or "return", told, new[5]), new):
                    return example_of(new)
    return None


def end_alike(first, second, _):
    if first[0] != second[0]:
        return False
    return first[0] != "return" or (first[1] == second[1] and sorted(first[2]) == sorted(second[2]))


def compare(program, name, other, depth, turns):
    return cases(contracts(program, name, depth, turns), contracts(program, other, depth, turns), end_alike)


def stands_for(program, name, other, depth, turns):
    returning = [contract for contract in contracts(program, name, depth, turns) if contract[5] == "return"]
    return cases(returning, contracts(program, other, depth, turns), end_alike)


def differs(program, name, other, depth, turns, run_unknown):
    """By explore: the first way on which the two do not end alike, as an example."""
    many = {procedure[1]: len(procedure[2]) for procedure in program}[name]
    actual = tuple(("known", number) for number in range(many))

    def work(asker):
        first = run_unknown(asker, program, name, actual, depth, turns)
        known = len(asker.cells)
        return first, known, run_unknown(asker, program, other, actual, depth, turns)

    for _, asker, (first, known, second) in explore(work, many):
        def told(outcome, more):
            if outcome[0] != "return":
                return outcome[0]
            cells = [tuple(asker.stands(term) for term in cell) for cell in outcome[2] + more]
            return "return", asker.stands(outcome[1]), sorted(cells)
        if told(first, asker.cells[known:]) != told(second, ()):
            return words_of_way(asker, (actual,))
    return None


def words_of_way(asker, actuals):
    """The example of the way: words for each of the rows of terms, and the heap."""
    standing = [("known", k) for k in range(asker.many) if asker.stands(("known", k)) == ("known", k)]

    def word(term):
        term = asker.stands(term)
        return 100 + standing.index(term) if term[0] == "known" else term[1]
    heap = tuple(sorted(tuple(word(term) for term in cell) for cell in asker.cells))
    return tuple(tuple(word(term) for term in actual) for actual in actuals) + (heap,)


def holds_always(program, name, depth, turns, saying):
    _, (_, cells, differ), after, result = saying
    many = {procedure[1]: len(procedure[2]) for procedure in program}[name]
    rows = sorted(set(range(many)) | set(numbers((cells, differ))))
    arguments = tuple(("var", number) for number in rows)
    path = ("path", arguments, cells, (), differ, cells, (), max(rows, default=-1) + 1, 0, None, ())
    for contract in contracts(program, name, depth, turns):
        for way, new, told in composed(path, contract, arguments[:many]):
            kept = sorted(put(after, way[1]) + new[2][len(cells):])
            if new[9] is not None or told != put(result, way[1]) or sorted(new[5]) != kept:
                answer = renumbered((new[1], new[2]))
                (words,) = given((new[1],), answer)
                return words[:many], tuple(sorted(given(new[2], answer))), tuple(zip(rows, words))
    return None


def before(program, name, depth, turns, after):
    many = {procedure[1]: len(procedure[2]) for procedure in program}[name]
    others = sorted({number for number in numbers(after[1:]) if number > many})
    naming = {number: ("var", number) for number in range(many + 1)}
    naming.update({number: ("var", many + 1 + place) for place, number in enumerate(others)})
    wanted = ("contract", tuple(naming.values()), put(after[1], naming), (), put(after[2], naming), "return", None, (), (), 0)
    found = []
    for number, contract in enumerate(contracts(program, name, depth, turns)):
        _, arguments, needs, absent, differ, end, result, gives, _, news = contract
        if end != "return":
            continue
        own = max(numbers(contract), default=-1) + 1
        more = tuple(("var", own + place) for place in range(len(others)))
        path = ("path", arguments + more, needs, (), differ, gives, (), own + len(others), news, None, ())
        for _, new, _ in composed(path, wanted, arguments + (result,) + more):
            pairs = left_out(new[4], [cell[0] for cell in new[2]], ())
            parts = (new[1][:many], new[2], pairs, new[1][many:])
            answer = renumbered(parts)
            arguments_now, cells, pairs, terms = [put(part, answer) for part in parts]
            found.append(("need", number, arguments_now, cells, pairs, tuple(zip(others, terms))))
    return tuple(found)


def reached(roots, cells):
    """[l1]: all that is reached from the roots, whatever the cells are made of."""
    found, grown = set(roots), True
    while grown:
        more = {field for cell in cells if cell[0] in found for field in cell[1:]}
        grown = not more <= found
        found |= more
    return found


def is_new(thing, first=None):
    return thing[0] == "new" if first is None else thing >= first


def alike_but_for_names(result, cells, other_result, other_cells, roots, first=None):
    """[r2]: whether any map of new addresses does it; words from the first one on are new ones."""
    sides = []
    for word, heap in ((result, cells), (other_result, other_cells)):
        there = reached((word,) + tuple(roots), heap)
        sides.append((word, sorted(cell for cell in heap if cell[0] in there),
                      sorted(thing for thing in there if is_new(thing, first))))
    (word, held, fresh), (other_word, other_held, other_fresh) = sides
    if len(fresh) != len(other_fresh):
        return False
    for row in itertools.permutations(other_fresh):
        names = dict(zip(fresh, row))
        mapped = sorted(tuple(names.get(thing, thing) for thing in cell) for cell in held)
        if names.get(word, word) == other_word and mapped == other_held:
            return True
    return False


def named_alike(first, second, path):
    if first[0] != "return" or second[0] != "return":
        return first[0] == second[0]
    roots = path[1] + tuple(cell[0] for cell in path[2])
    return alike_but_for_names(first[1], first[2], second[1], second[2], roots)


def compare_named(program, name, other, depth, turns):
    return cases(contracts(program, name, depth, turns), contracts(program, other, depth, turns), named_alike)

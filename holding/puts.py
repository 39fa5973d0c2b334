"""The calls: each reads the text of a work anew, and answers with a list of numbers.

The refusals are looked for in the order in which the document names them.
"""

from holding.drawing import (
    WAY_COUNT, comes_off, find_all_in_way, find_along, find_first_move, find_in_way, find_in_ways, take_apart,
)
from holding.reading import read_work

# The refusals, but those that reading a text makes.
BAD_WAY = -1
NO_MOVE = -3
NO_PUT = -4
NO_SET = -8


def is_set(puts, count):
    """Whether the list is a set of puts, of a work that has so many."""
    # In a rising list the last is the greatest.
    rising = all([puts[k - 1] < puts[k] for k in range(1, len(puts))])
    return len(puts) > 0 and rising and puts[-1] < count


def tell_puts(puts):
    """How many puts, and they."""
    return [len(puts)] + puts


def tell_move(move):
    return [move.way] + tell_puts(move.coming) + tell_puts(move.left)


def take_all_apart(work):
    return take_apart(find_in_ways(work.cells), list(range(len(work.cells))))


def judge(text):
    """0 alone if the text is right and no two puts overlap, else the refusal."""
    work = read_work(text)
    if work.refusal:
        return work.refusal
    return [0]


def stands(i, way, text):
    """How many puts stand in put i's way, and which, rising."""
    work = read_work(text)
    if work.refusal:
        return work.refusal
    if way >= WAY_COUNT:
        return [BAD_WAY]
    if i >= len(work.cells):
        return [NO_PUT]
    return tell_puts(find_in_way(work.cells, i, way))


def along(i, way, text, puts):
    """How many puts of the set come along with put i, itself too, and which, rising."""
    work = read_work(text)
    if work.refusal:
        return work.refusal
    if way >= WAY_COUNT:
        return [BAD_WAY]
    if i >= len(work.cells):
        return [NO_PUT]
    if not is_set(puts, len(work.cells)) or i not in puts:
        return [NO_SET]
    return tell_puts(find_along(find_all_in_way(work.cells, way), i, puts))


def off(way, text, puts, others):
    """1 if the set comes off the others that way, else 0."""
    work = read_work(text)
    if work.refusal:
        return work.refusal
    if way >= WAY_COUNT:
        return [BAD_WAY]
    count = len(work.cells)
    if not is_set(puts, count) or not is_set(others, count) or any([i in others for i in puts]):
        return [NO_SET]
    return [1 if comes_off(find_all_in_way(work.cells, way), puts, others) else 0]


def first(text, puts):
    """0, and the set's first move: the way, how many puts come along, they, how many are left, they."""
    work = read_work(text)
    if work.refusal:
        return work.refusal
    if not is_set(puts, len(work.cells)):
        return [NO_SET]
    move = find_first_move(find_in_ways(work.cells), puts)
    if move is None:
        return [NO_MOVE]
    return [0] + tell_move(move)


def apart(text, puts):
    """1 if the set comes apart, else 0."""
    work = read_work(text)
    if work.refusal:
        return work.refusal
    if not is_set(puts, len(work.cells)):
        return [NO_SET]
    row = take_apart(find_in_ways(work.cells), puts)
    return [1 if all([len(together) == 1 for together in row.together]) else 0]


def order(text):
    """How many moves take the work apart as far as it goes, and each as `first` tells it behind its 0."""
    work = read_work(text)
    if work.refusal:
        return work.refusal
    moves = take_all_apart(work).moves
    answer = [len(moves)]
    for move in moves:
        answer.extend(tell_move(move))
    return answer


def locked(text):
    """How many sets are left locked in the end, and of each, in the row's order, how many puts, and they."""
    work = read_work(text)
    if work.refusal:
        return work.refusal
    # A work without puts leaves an empty set behind, which is not locked either.
    left = [together for together in take_all_apart(work).together if len(together) > 1]
    answer = [len(left)]
    for together in left:
        answer.extend(tell_puts(together))
    return answer

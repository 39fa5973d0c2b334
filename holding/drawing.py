"""Tells which puts stand in another's way, come along with it, come off, and how a set is taken apart."""

from holding.reading import GRID_SIDE, STRIDES

WAY_COUNT = 6


class Move:
    """A set's move: the way, what comes along, and what is left."""

    def __init__(self, way, coming, left):
        self.way = way
        self.coming = coming
        self.left = left


class Row:
    """A set taken apart: the moves that were made, and the sets still together in the end, as they stand in the row."""

    def __init__(self):
        self.moves = []
        self.together = []


def opposite(way):
    return way + 1 if way % 2 == 0 else way - 1


def line_ends(cells, way):
    """For each line along the way that has some of the cells: how far out the least far of them lies."""
    stride = STRIDES[way // 2]
    ends = {}
    for cell in cells:
        line = cell - (cell // stride % GRID_SIDE) * stride
        # Within a line cells are ordered as their numbers are.
        out = cell if way % 2 == 0 else -cell
        if line not in ends or out < ends[line]:
            ends[line] = out
    return ends


def all_ends(cells_of_puts, way):
    """For each put its ends."""
    return [line_ends(cells, way) for cells in cells_of_puts]


def meets(ends, other_ends):
    """Whether a put of these ends, one way, meets one of those other ends, the opposite way."""
    for line, end in ends.items():
        # What is counted the opposite way has its sign turned: a sum below 0 says that the other reaches farther out.
        if line in other_ends and end + other_ends[line] < 0:
            return True
    return False


def find_met(i, ends, other_ends):
    """The puts that put i meets, rising; the other ends are those of all puts."""
    return [j for j, there in enumerate(other_ends) if j != i and meets(ends, there)]


def find_all_met(ends, other_ends):
    """For each put those that it meets, rising; the ends, too, are those of all puts."""
    return [find_met(i, here, other_ends) for i, here in enumerate(ends)]


def find_in_way(cells_of_puts, i, way):
    """The puts that stand in put i's way, rising."""
    return find_met(i, line_ends(cells_of_puts[i], way), all_ends(cells_of_puts, opposite(way)))


def find_all_in_way(cells_of_puts, way):
    """For each put those that stand in its way, rising."""
    return find_all_met(all_ends(cells_of_puts, way), all_ends(cells_of_puts, opposite(way)))


def find_in_ways(cells_of_puts):
    """For each way, for each put: those that stand in its way, rising."""
    ends = [all_ends(cells_of_puts, way) for way in range(WAY_COUNT)]
    return [find_all_met(ends[way], ends[opposite(way)]) for way in range(WAY_COUNT)]


def find_along(in_way, i, puts):
    """What comes along with put i of a set that has it, rising."""
    coming = {i: True}
    to_follow = [i]
    while to_follow:
        k = to_follow.pop()
        for j in in_way[k]:
            if j not in coming and j in puts:
                coming[j] = True
                to_follow.append(j)
    return sorted(coming)


def comes_off(in_way, puts, others):
    """Whether none of the others stands in the way of any of the puts."""
    for i in puts:
        if any([j in others for j in in_way[i]]):
            return False
    return True


def find_first_move(in_ways, puts):
    """The set's first move, or None if it is locked or of one put."""
    for way, in_way in enumerate(in_ways):
        for i in puts:
            coming = find_along(in_way, i, puts)
            if len(coming) < len(puts):
                return Move(way, coming, [j for j in puts if j not in coming])
    return None


def take_apart(in_ways, puts):
    """Takes a set apart by first moves, as far as it goes."""
    row = Row()
    # The row from its first set on that may still move, last one first: those ahead of it move no more.
    to_move = [puts]
    while to_move:
        together = to_move.pop()
        move = find_first_move(in_ways, together)
        if move is None:
            row.together.append(together)
        else:
            row.moves.append(move)
            to_move.append(move.left)
            to_move.append(move.coming)
    return row

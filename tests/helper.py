"""What the tests share: texts of works, and the document told once more, as plainly and slowly as can be."""

import itertools
import random
import re

LARGEST = 4294967295

WAYS = "rlbfud"
STEPS = {"r": (1, 0, 0), "l": (-1, 0, 0), "b": (0, 1, 0), "f": (0, -1, 0), "u": (0, 0, 1), "d": (0, 0, -1)}
OPPOSITE = (1, 0, 3, 2, 5, 4)

# Where up points, worked out by hand for each of the 24 turns.
UPS = {
    "rb": "u", "rf": "d", "ru": "f", "rd": "b",
    "lb": "d", "lf": "u", "lu": "b", "ld": "f",
    "br": "d", "bl": "u", "bu": "r", "bd": "l",
    "fr": "u", "fl": "d", "fu": "l", "fd": "r",
    "ur": "b", "ul": "f", "ub": "l", "uf": "r",
    "dr": "f", "dl": "b", "db": "r", "df": "l",
}
TURNS = sorted(UPS)

NUMBER = b"(0|[1-9][0-9]*)"
PART_LINE = re.compile(b"part ([a-z0-9]{1,12}) %b %b %b [xyz]" % ((NUMBER,) * 3))
CUT_LINE = re.compile(b"cut %b %b %b %b %b %b" % ((NUMBER,) * 6))
PUT_LINE = re.compile(b"put ([a-z0-9]{1,12}) ([rlbfud]{2}) %b %b %b" % ((NUMBER,) * 3))


class Frozen(list):
    """A list that can't be changed, not for a while either."""

    def refuse(self, *args, **kwargs):
        raise AssertionError("a list that was handed in is changed")

    append = clear = extend = insert = pop = remove = reverse = sort = refuse
    __setitem__ = __delitem__ = __iadd__ = __imul__ = refuse


def as_text(words):
    return [byte for byte in words.encode("latin-1")]


def lines(*rows):
    """The text of these lines, each with its line feed."""
    return as_text("".join(row + "\n" for row in rows))


UNIT = "part b 1 1 1 x"


def put(*place):
    """The row that puts the part of one cell."""
    return "put b rb %d %d %d" % place


# Four puts in one line.
ROW = lines(UNIT, put(10, 5, 5), put(11, 5, 5), put(20, 5, 5), put(48, 5, 5))
# Lists that are no set of puts of a work that has four.
NO_SETS = (
    [], [1, 0], [0, 0], [0, 1, 1], [0, 2, 1], [2, 1, 0], [0, 1, 2, 1], [0, 2, 1, 3], [3, 2, 1, 0], [0, 4], [4], [5],
    [0, 1, 2, 3, 4], [LARGEST], [0, LARGEST], [LARGEST, 0], [4, 0], [0, 5, 1], [0, 1, 2, 3, 3], [0, 0, 1, 2, 3],
    list(range(100)), list(range(99, -1, -1)), [0] * 100, [LARGEST] * 100, [0, 1, 2] * 33, [0, 1, 2, 3] * 25,
)
# Texts that every call refuses.
OVERLAPPING = lines(UNIT, put(0, 0, 0), put(5, 0, 0), put(5, 0, 0))
FAULTY = lines(UNIT, put(0, 0, 0), put(0, 0, 0), "x")
LONG = lines(UNIT, "x") + [120] * 65536
REFUSED = (
    (OVERLAPPING, [-9, 1, 2]),
    (FAULTY, [-6, 3, 1]),
    (LONG, [-2]),
    ([10] * 65537, [-2]),
    ([10] * 65536, [-6, 0, 1]),
    (lines(put(0, 0, 0)), [-6, 0, 3]),
    (lines(UNIT, UNIT), [-6, 1, 4]),
    (lines(UNIT, put(0, 0, 0))[:-1], [-6, 1, 1]),
    (lines(UNIT, *[put(number, 0, 0) for number in range(33)]), [-6, 33, 2]),
)


def chain(count, y=0):
    """The rows of a chain: links that lie and stand in turn, each held by the next in all six ways."""
    rows = ["part k 5 3 1 x", "cut 1 1 0 3 1 1"]
    for number in range(count):
        lying = number % 2 == 0
        rows.append("put k %s %d %d %d" % ("rb" if lying else "ru", 3 * number, y if lying else y + 1, lying))
    return rows


PUT_SIGNS = "0123456789abcdefghijklmnopqrstuv"


def from_layers(*layers):
    """The rows of a work told cell by cell: layers from the lowest up, in each the rows from the front to the back.

    A cell's sign is the number of its put (a for 10, and so on), or a dot for none.
    """
    signs = {
        (x, y, z): sign
        for z, layer in enumerate(layers)
        for y, row in enumerate(layer.split())
        for x, sign in enumerate(row)
    }
    sizes = [max(cell[axis] for cell in signs) + 1 for axis in range(3)]
    count = max(PUT_SIGNS.find(sign) for sign in signs.values()) + 1
    rows = []
    for number in range(count):
        rows.append("part p%d %d %d %d x" % (number, *sizes))
        rows.extend("cut %d %d %d 1 1 1" % cell for cell, sign in signs.items() if sign != PUT_SIGNS[number])
    return rows + ["put p%d rb 9 9 9" % number for number in range(count)]


# A box, and a cell within it: locked.
BOX = ["part a 5 5 5 x", "cut 1 1 1 3 3 3", UNIT, "put a rb 5 5 5", put(7, 7, 7)]
# A case that is open to the right; in it a ring, and a rod in the ring, which only come out together.
DRAWER = ["part a 5 5 5 x", "cut 1 1 1 4 3 3", "part r 3 3 1 x", "cut 1 1 0 1 1 1", "part c 1 1 3 z",
          "put a rb 5 5 5", "put r rb 6 6 7", "put c rb 7 7 6"]
# Three that are locked, though of any two each comes off the other.
KNOT = from_layers("12. 200 .12", "... ... 1..", "01. .2. ...")

# As many puts as there may be, each as large as may be.
BLOCKS = ["part a 16 16 16 x"]
BLOCKS += ["put a rb %d %d %d" % (16 * (k % 4), 16 * (k // 4 % 4), 16 * (k // 16)) for k in range(32)]
# Four rows of four boxes, each with a cell within it.
BOXES = ["part a 3 3 3 x", "cut 1 1 1 1 1 1", UNIT]
for number in range(16):
    corner = (4 * (number % 4), 4 * (number // 4), 7)
    BOXES += ["put a rb %d %d %d" % corner, put(*[low + 1 for low in corner])]


class SetRefusals:
    """What a call, told as `call`, refuses that is handed a text and a set of puts, whatever else it does."""

    FULL = lines(UNIT, *[put(number, 0, 0) for number in range(32)])

    def test_no_sets(self):
        for numbers in NO_SETS:
            self.assertEqual(self.call(ROW, numbers), [-8], numbers)

    def test_beyond_the_32nd_put(self):
        for numbers in ([32], [31, 32], list(range(33)), list(range(1, 33)), [0, 32]):
            self.assertEqual(self.call(self.FULL, numbers), [-8], numbers)

    def test_no_puts_at_all(self):
        for text in ([], lines(UNIT)):
            for numbers in ([], [0], [0, 1], [LARGEST], [LARGEST] * 100):
                self.assertEqual(self.call(text, numbers), [-8], numbers)

    def test_those_of_every_call(self):
        """They go ahead of the set's; a text too long is faulty too, and a faulty one overlaps."""
        for text, refusal in REFUSED:
            for numbers in ([0], [0, 1], [], [1, 0], [0, 0], [LARGEST] * 100):
                self.assertEqual(self.call(text, numbers), refusal, (refusal, numbers))


def small(digits):
    """A number; one too long to be read is beyond all bounds anyhow."""
    return int(digits) if len(digits) < 10 else 10 ** 9


def block(corner, lengths):
    return {
        (x, y, z)
        for x in range(corner[0], corner[0] + lengths[0])
        for y in range(corner[1], corner[1] + lengths[1])
        for z in range(corner[2], corner[2] + lengths[2])
    }


def turned(cell, sizes, turn, corner):
    place = list(corner)
    for number, length, way in zip(cell, sizes, turn + UPS[turn]):
        axis = [abs(step) for step in STEPS[way]].index(1)
        place[axis] += number if way in "rbu" else length - 1 - number
    return tuple(place)


def put_set(sizes, cuts, turn, corner):
    """The cells of a put, as a set of triples."""
    cells = block((0, 0, 0), sizes)
    for cut_corner, cut_lengths in cuts:
        cells -= block(cut_corner, cut_lengths)
    return {turned(cell, sizes, turn, corner) for cell in cells}


def line_reasons(row, parts, puts):
    """All the reasons that hold of a line, and what is to be done with it if there's none."""
    part, cut, put = PART_LINE.fullmatch(row), CUT_LINE.fullmatch(row), PUT_LINE.fullmatch(row)
    if part:
        name, sizes = part[1], tuple(small(digits) for digits in part.groups()[1:])
        found = {1: not all(1 <= size <= 16 for size in sizes), 3: bool(puts),
                 4: name in [other[0] for other in parts], 2: len(parts) >= 32}
        return found, lambda: parts.append((name, sizes, []))
    if cut:
        numbers = [small(digits) for digits in cut.groups()]
        corner, lengths = numbers[:3], numbers[3:]
        sizes, cuts = parts[-1][1:] if parts else ((0, 0, 0), [])
        found = {1: not all(1 <= length <= 16 for length in lengths), 3: bool(puts) or not parts,
                 4: any(c + n > size for c, n, size in zip(corner, lengths, sizes)), 2: len(cuts) >= 64}
        return found, lambda: cuts.append((corner, lengths))
    if put:
        name, turn, corner = put[1], put[2].decode(), tuple(small(digits) for digits in put.groups()[2:])
        of_name = [other for other in parts if other[0] == name]
        found = {1: turn not in UPS or max(corner) > 48, 3: not parts, 4: not of_name, 2: len(puts) >= 32}
        return found, lambda: puts.append((of_name[0], turn, corner))
    return {1: True}, None


def slow_read(text):
    """The refusal of every call (or None) and the puts' cells."""
    if len(text) > 65536:
        return [-2], []
    parts, puts = [], []
    rows = bytes(text).split(b"\n")
    for number, row in enumerate(rows):
        if number == len(rows) - 1:
            if row:
                return [-6, number, 1], []
            break
        found, take = line_reasons(row, parts, puts)
        for why in (1, 3, 4, 2):
            if found.get(why):
                return [-6, number, why], []
        take()
    cells = [put_set(part[1], part[2], turn, corner) for part, turn, corner in puts]
    for i in range(len(cells)):
        for j in range(i + 1, len(cells)):
            if cells[i] & cells[j]:
                return [-9, i, j], []
    return None, cells


def slow_judge(text):
    return slow_read(text)[0] or [0]


def slow_in_way(cells, i, way):
    """The puts that stand in put i's way, as a set."""
    step = STEPS[WAYS[way]]
    ahead = {tuple(c + far * s for c, s in zip(cell, step)) for cell in cells[i] for far in range(1, 64)}
    return {j for j in range(len(cells)) if j != i and ahead & cells[j]}


def slow_stands(i, way, text):
    refusal, cells = slow_read(text)
    if refusal:
        return refusal
    if way > 5:
        return [-1]
    if i >= len(cells):
        return [-4]
    found = sorted(slow_in_way(cells, i, way))
    return [len(found)] + found


def slow_is_set(numbers, cells):
    return len(numbers) > 0 and numbers == sorted(set(numbers)) and set(numbers) <= set(range(len(cells)))


def slow_comes_off(cells, some, others, way):
    return not any(slow_in_way(cells, i, way) & set(others) for i in some)


def subsets(numbers):
    """Every set of these numbers, the empty one too, lesser ones first."""
    return [set(some) for count in range(len(numbers) + 1) for some in itertools.combinations(numbers, count)]


def slow_parts(in_way, some, others):
    """Whether the one comes off the other, by who stands in whose way."""
    return not any(in_way[i] & others for i in some)


def slow_least(in_way, i, numbers):
    """What comes along with i: tries every set that has i, the least first."""
    for some in subsets(numbers):
        if i in some and slow_parts(in_way, some, set(numbers) - some):
            return some


def slow_along(i, way, text, numbers):
    refusal, cells = slow_read(text)
    if refusal:
        return refusal
    if way > 5:
        return [-1]
    if i >= len(cells):
        return [-4]
    if not slow_is_set(numbers, cells) or i not in numbers:
        return [-8]
    some = slow_least({j: slow_in_way(cells, j, way) for j in numbers}, i, numbers)
    return [len(some)] + sorted(some)


def slow_off(way, text, numbers, others):
    refusal, cells = slow_read(text)
    if refusal:
        return refusal
    if way > 5:
        return [-1]
    if not slow_is_set(numbers, cells) or not slow_is_set(others, cells) or set(numbers) & set(others):
        return [-8]
    return [1 if slow_comes_off(cells, numbers, others, way) else 0]


def slow_in_ways(cells):
    return [[slow_in_way(cells, i, way) for i in range(len(cells))] for way in range(6)]


def slow_move(in_ways, numbers):
    """The first move: the way, what comes along and what's left; None if there's none."""
    for way in range(6):
        for i in numbers:
            some = slow_least(in_ways[way], i, numbers)
            if some != set(numbers):
                return way, sorted(some), sorted(set(numbers) - some)
    return None


def slow_first(text, numbers):
    refusal, cells = slow_read(text)
    if refusal:
        return refusal
    if not slow_is_set(numbers, cells):
        return [-8]
    move = slow_move(slow_in_ways(cells), numbers) if len(numbers) > 1 else None
    if move is None:
        return [-3]
    way, some, rest = move
    return [0, way, len(some)] + some + [len(rest)] + rest


def slow_comes_apart(in_ways, numbers):
    """Tries all partings into two sets, however one begins."""
    if len(numbers) == 1:
        return True
    for some in subsets(numbers)[1:-1]:
        rest = set(numbers) - some
        if any(slow_parts(in_way, some, rest) for in_way in in_ways):
            if slow_comes_apart(in_ways, sorted(some)) and slow_comes_apart(in_ways, sorted(rest)):
                return True
    return False


def slow_apart(text, numbers):
    refusal, cells = slow_read(text)
    if refusal:
        return refusal
    if not slow_is_set(numbers, cells):
        return [-8]
    return [1 if slow_comes_apart(slow_in_ways(cells), numbers) else 0]


def slow_row(in_ways, count):
    """The moves of a work, and its row in the end, set by set as the document tells it."""
    row, moves = [list(range(count))], []
    while True:
        for place, together in enumerate(row):
            move = slow_move(in_ways, together) if len(together) > 1 else None
            if move is not None:
                break
        else:
            return moves, row
        moves.append(move)
        row[place:place + 1] = move[1:]


def slow_order(text):
    refusal, cells = slow_read(text)
    if refusal:
        return refusal
    moves, row = slow_row(slow_in_ways(cells), len(cells))
    answer = [len(moves)]
    for way, some, rest in moves:
        answer += [way, len(some)] + some + [len(rest)] + rest
    return answer


def slow_locked(text):
    refusal, cells = slow_read(text)
    if refusal:
        return refusal
    moves, row = slow_row(slow_in_ways(cells), len(cells))
    left = [together for together in row if len(together) > 1]
    return sum([[len(together)] + together for together in left], [len(left)])


def moves_told(answer):
    """The moves that an answer of order tells: of each the way, what comes along, what is left."""
    moves, at = [], 1
    for number in range(answer[0]):
        way, count = answer[at:at + 2]
        some, at = answer[at + 2:at + 2 + count], at + 2 + count
        rest, at = answer[at + 1:at + 1 + answer[at]], at + 1 + answer[at]
        moves.append((way, some, rest))
    return moves


def sets_told(answer):
    """The sets that an answer of locked tells."""
    sets, at = [], 1
    for number in range(answer[0]):
        sets.append(answer[at + 1:at + 1 + answer[at]])
        at += 1 + answer[at]
    return sets


def random_cut(dice, sizes):
    corner = [dice.randrange(size) for size in sizes]
    lengths = [dice.randint(1, size - low) for low, size in zip(corner, sizes)]
    return "cut " + " ".join(str(number) for number in corner + lengths)


def random_rows(dice, most_side=4, spread=12, most_puts=8):
    """The rows of a work that is right but for overlaps, and few of these."""
    names = ["p%d" % number for number in range(dice.randint(1, 4))]
    rows = []
    for name in names:
        sizes = [dice.randint(1, most_side) for axis in range(3)]
        rows.append("part %s %d %d %d %s" % (name, *sizes, dice.choice("xyz")))
        rows.extend(random_cut(dice, sizes) for count in range(dice.randint(0, 3)))
    for count in range(dice.randint(1, most_puts)):
        corner = [dice.randint(0, spread) for axis in range(3)]
        rows.append("put %s %s %d %d %d" % (dice.choice(names), dice.choice(TURNS), *corner))
    return rows


def without_overlap(rows):
    """The same rows less the puts that overlap others in front of them."""
    while True:
        answer = slow_judge(lines(*rows))
        if answer[0] != -9:
            return rows
        put_rows = [number for number, row in enumerate(rows) if row.startswith("put ")]
        rows = rows[:put_rows[answer[2]]] + rows[put_rows[answer[2]] + 1:]


def random_works(seed, count, **bounds):
    """Rows of works without overlap, the same ones at each run."""
    dice = random.Random(seed)
    return [without_overlap(random_rows(dice, **bounds)) for number in range(count)]


def random_tangles(seed, count, side=3, most_puts=5):
    """Rows of works without overlap in which each cell of a small block falls to some put: many hold one another."""
    dice = random.Random(seed)
    works = []
    for number in range(count):
        signs = PUT_SIGNS[:dice.randint(2, most_puts)]
        filled = dice.choice((0.3, 0.5, 0.7, 1))
        cells = [dice.choice(signs) if dice.random() < filled else "." for cell in range(side ** 3)]
        # The last put is given a cell, so that every work has as many puts as were thrown.
        cells[dice.randrange(len(cells))] = signs[-1]
        rows = ["".join(cells[start:start + side]) for start in range(0, len(cells), side)]
        works.append(from_layers(*[" ".join(rows[start:start + side]) for start in range(0, len(rows), side)]))
    return works

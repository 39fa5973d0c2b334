"""What the tests share: texts of works, and the document told once more, as plainly and slowly as can be."""

import itertools
import random
import re

WAYS = "rlbfud"
STEPS = {"r": (1, 0, 0), "l": (-1, 0, 0), "b": (0, 1, 0), "f": (0, -1, 0), "u": (0, 0, 1), "d": (0, 0, -1)}
OPPOSITE = (1, 0, 3, 2, 5, 4)

# Where up points, worked out by hand for each of the 24 turns.
UPS = {
    "rb": "u", "rf": "d", "ru": "f", "rd": "b",
    "lb": "d", "lf": "u", "lu": "b", "ld": "f",
    "br": "d", "bl": "u", "bu": "r", "bd": "l",
    "fr": "u", "fl": "d", "fu": "l", "fd": "r",
    "ur": "b", "ul": "f", "ub": "l", "uf": "r",
    "dr": "f", "dl": "b", "db": "r", "df": "l",
}
TURNS = sorted(UPS)

NUMBER = b"(0|[1-9][0-9]*)"
PART_LINE = re.compile(b"part ([a-z0-9]{1,12}) %b %b %b [xyz]" % ((NUMBER,) * 3))
CUT_LINE = re.compile(b"cut %b %b %b %b %b %b" % ((NUMBER,) * 6))
PUT_LINE = re.compile(b"put ([a-z0-9]{1,12}) ([rlbfud]{2}) %b %b %b" % ((NUMBER,) * 3))


class Frozen(list):
    """A list that can't be changed, not for a while either."""

    def refuse(self, *args, **kwargs):
        raise AssertionError("a list that was handed in is changed")

    append = clear = extend = insert = pop = remove = reverse = sort = refuse
    __setitem__ = __delitem__ = __iadd__ = __imul__ = refuse


def as_text(words):
    return [byte for byte in words.encode("latin-1")]


def lines(*rows):
    """The text of these lines, each with its line feed."""
    return as_text("".join(row + "\n" for row in rows))


def small(digits):
    """A number; one too long to be read is beyond all bounds anyhow."""
    return int(digits) if len(digits) < 10 else 10 ** 9


def block(corner, lengths):
    return {
        (x, y, z)
        for x in range(corner[0], corner[0] + lengths[0])
        for y in range(corner[1], corner[1] + lengths[1])
        for z in range(corner[2], corner[2] + lengths[2])
    }


def turned(cell, sizes, turn, corner):
    place = list(corner)
    for number, length, way in zip(cell, sizes, turn + UPS[turn]):
        axis = [abs(step) for step in STEPS[way]].index(1)
        place[axis] += number if way in "rbu" else length - 1 - number
    return tuple(place)


def put_set(sizes, cuts, turn, corner):
    """The cells of a put, as a set of triples."""
    cells = block((0, 0, 0), sizes)
    for cut_corner, cut_lengths in cuts:
        cells -= block(cut_corner, cut_lengths)
    return {turned(cell, sizes, turn, corner) for cell in cells}


def line_reasons(row, parts, puts):
    """All the reasons that hold of a line, and what is to be done with it if there's none."""
    part, cut, put = PART_LINE.fullmatch(row), CUT_LINE.fullmatch(row), PUT_LINE.fullmatch(row)
    if part:
        name, sizes = part[1], tuple(small(digits) for digits in part.groups()[1:])
        found = {1: not all(1 <= size <= 16 for size in sizes), 3: bool(puts),
                 4: name in [other[0] for other in parts], 2: len(parts) >= 32}
        return found, lambda: parts.append((name, sizes, []))
    if cut:
        numbers = [small(digits) for digits in cut.groups()]
        corner, lengths = numbers[:3], numbers[3:]
        sizes, cuts = parts[-1][1:] if parts else ((0, 0, 0), [])
        found = {1: not all(1 <= length <= 16 for length in lengths), 3: bool(puts) or not parts,
                 4: any(c + n > size for c, n, size in zip(corner, lengths, sizes)), 2: len(cuts) >= 64}
        return found, lambda: cuts.append((corner, lengths))
    if put:
        name, turn, corner = put[1], put[2].decode(), tuple(small(digits) for digits in put.groups()[2:])
        of_name = [other for other in parts if other[0] == name]
        found = {1: turn not in UPS or max(corner) > 48, 3: not parts, 4: not of_name, 2: len(puts) >= 32}
        return found, lambda: puts.append((of_name[0], turn, corner))
    return {1: True}, None


def slow_read(text):
    """The refusal of every call (or None) and the puts' cells."""
    if len(text) > 65536:
        return [-2], []
    parts, puts = [], []
    rows = bytes(text).split(b"\n")
    for number, row in enumerate(rows):
        if number == len(rows) - 1:
            if row:
                return [-6, number, 1], []
            break
        found, take = line_reasons(row, parts, puts)
        for why in (1, 3, 4, 2):
            if found.get(why):
                return [-6, number, why], []
        take()
    cells = [put_set(part[1], part[2], turn, corner) for part, turn, corner in puts]
    for i in range(len(cells)):
        for j in range(i + 1, len(cells)):
            if cells[i] & cells[j]:
                return [-9, i, j], []
    return None, cells


def slow_judge(text):
    return slow_read(text)[0] or [0]


def slow_in_way(cells, i, way):
    """The puts that stand in put i's way, as a set."""
    step = STEPS[WAYS[way]]
    ahead = {tuple(c + far * s for c, s in zip(cell, step)) for cell in cells[i] for far in range(1, 64)}
    return {j for j in range(len(cells)) if j != i and ahead & cells[j]}


def slow_stands(i, way, text):
    refusal, cells = slow_read(text)
    if refusal:
        return refusal
    if way > 5:
        return [-1]
    if i >= len(cells):
        return [-4]
    found = sorted(slow_in_way(cells, i, way))
    return [len(found)] + found


def slow_is_set(numbers, cells):
    return len(numbers) > 0 and numbers == sorted(set(numbers)) and set(numbers) <= set(range(len(cells)))


def slow_comes_off(cells, some, others, way):
    return not any(slow_in_way(cells, i, way) & set(others) for i in some)


def subsets(numbers):
    """Every set of these numbers, the empty one too, lesser ones first."""
    return [set(some) for count in range(len(numbers) + 1) for some in itertools.combinations(numbers, count)]


def slow_along(i, way, text, numbers):
    """Tries every set that has i, the least first."""
    refusal, cells = slow_read(text)
    if refusal:
        return refusal
    if way > 5:
        return [-1]
    if i >= len(cells):
        return [-4]
    if not slow_is_set(numbers, cells) or i not in numbers:
        return [-8]
    in_way = {j: slow_in_way(cells, j, way) for j in numbers}
    for some in subsets(numbers):
        if i in some and not any(in_way[j] & (set(numbers) - some) for j in some):
            return [len(some)] + sorted(some)


def slow_off(way, text, numbers, others):
    refusal, cells = slow_read(text)
    if refusal:
        return refusal
    if way > 5:
        return [-1]
    if not slow_is_set(numbers, cells) or not slow_is_set(others, cells) or set(numbers) & set(others):
        return [-8]
    return [1 if slow_comes_off(cells, numbers, others, way) else 0]


def random_cut(dice, sizes):
    corner = [dice.randrange(size) for size in sizes]
    lengths = [dice.randint(1, size - low) for low, size in zip(corner, sizes)]
    return "cut " + " ".join(str(number) for number in corner + lengths)


def random_rows(dice, most_side=4, spread=12, most_puts=8):
    """The rows of a work that is right but for overlaps, and few of these."""
    names = ["p%d" % number for number in range(dice.randint(1, 4))]
    rows = []
    for name in names:
        sizes = [dice.randint(1, most_side) for axis in range(3)]
        rows.append("part %s %d %d %d %s" % (name, *sizes, dice.choice("xyz")))
        rows.extend(random_cut(dice, sizes) for count in range(dice.randint(0, 3)))
    for count in range(dice.randint(1, most_puts)):
        corner = [dice.randint(0, spread) for axis in range(3)]
        rows.append("put %s %s %d %d %d" % (dice.choice(names), dice.choice(TURNS), *corner))
    return rows


def without_overlap(rows):
    """The same rows less the puts that overlap others in front of them."""
    while True:
        answer = slow_judge(lines(*rows))
        if answer[0] != -9:
            return rows
        put_rows = [number for number, row in enumerate(rows) if row.startswith("put ")]
        rows = rows[:put_rows[answer[2]]] + rows[put_rows[answer[2]] + 1:]


def random_works(seed, count, **bounds):
    """Rows of works without overlap, the same ones at each run."""
    dice = random.Random(seed)
    return [without_overlap(random_rows(dice, **bounds)) for number in range(count)]

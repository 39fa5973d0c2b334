"""Reads the text of a work, with the refusals that every call looks for first.

A cell of the grid is one number, x + 64 y + 4096 z: a put ends at 64 at the most, so no two cells share one.
"""

# The refusals of every call.
TOO_LONG = -2
FAULTY = -6
OVERLAPPING = -9

# Why a line is faulty.
NO_FAULT = 0
NOT_FORMED = 1
TOO_MUCH = 2
CANT_STAND = 3
CLASHES = 4

MOST_BYTES = 65536
MOST_PARTS = 32
MOST_CUTS = 64
MOST_PUTS = 32
LONGEST_NAME = 12
LONGEST_SIDE = 16
FARTHEST_CORNER = 48

# The signs that a right line may have; every other byte is read as NO_SIGN, which is none of them.
SIGNS = "\n 0123456789abcdefghijklmnopqrstuvwxyz"
NO_SIGN = "?"
GRAINS = ("x", "y", "z")
WAY_SIGNS = "rlbfud"
WAY_STEPS = ((1, 0, 0), (-1, 0, 0), (0, 1, 0), (0, -1, 0), (0, 0, 1), (0, 0, -1))

NO_NUMBER = -1
# Beyond every bound, even with a length added to it.
HUGE = 10000

GRID_SIDE = 64
STRIDES = (1, 64, 4096)


class Part:
    """A block; bit x of its row y + d z says whether it has the cell (x, y, z)."""

    def __init__(self, sizes):
        self.sizes = sizes
        self.cuts = 0
        self.rows = [(1 << sizes[0]) - 1] * (sizes[1] * sizes[2])


class Put:
    """A part as it is put: where its right, back and up point, and its lowest corner."""

    def __init__(self, part, ways, corner):
        self.part = part
        self.ways = ways
        self.corner = corner


class Work:
    """What has been read of a text: its parts by name, the latest part, its puts, the cells of each put.

    Its refusal is empty if the text is right and no two puts overlap.
    """

    def __init__(self):
        self.parts = {}
        self.latest = None
        self.puts = []
        self.cells = []
        self.refusal = []


def split_lines(text):
    """The lines of a text, and behind them what stands behind the last line feed."""
    signs = [NO_SIGN] * 256
    for sign in SIGNS:
        signs[ord(sign)] = sign
    return "".join([signs[byte] for byte in text]).split("\n")


def is_name(word):
    return word.isalnum() and len(word) <= LONGEST_NAME


def read_number(word):
    if not word.isdigit() or (word[0] == "0" and len(word) > 1):
        return NO_NUMBER
    # Python refuses to read a number of some thousand digits.
    if len(word) > 4:
        return HUGE
    return int(word)


def read_numbers(words):
    return [read_number(word) for word in words]


def all_within(numbers, least, most):
    return all([least <= number <= most for number in numbers])


def cross(a, b):
    return (a[1] * b[2] - a[2] * b[1], a[2] * b[0] - a[0] * b[2], a[0] * b[1] - a[1] * b[0])


def read_ways(word):
    """Where right, back and up point, or an empty list if the word doesn't tell it."""
    ways = [WAY_SIGNS.find(sign) for sign in word]
    if len(ways) != 2 or -1 in ways or ways[0] // 2 == ways[1] // 2:
        return []
    return ways + [WAY_STEPS.index(cross(WAY_STEPS[ways[0]], WAY_STEPS[ways[1]]))]


def read_part(work, words):
    sizes = read_numbers(words[2:5])
    if len(words) != 6 or not is_name(words[1]) or not all_within(sizes, 1, LONGEST_SIDE) or words[5] not in GRAINS:
        return NOT_FORMED
    if work.puts:
        return CANT_STAND
    if words[1] in work.parts:
        return CLASHES
    if len(work.parts) == MOST_PARTS:
        return TOO_MUCH
    work.latest = Part(sizes)
    work.parts[words[1]] = work.latest
    return NO_FAULT


def read_cut(work, words):
    corner = read_numbers(words[1:4])
    lengths = read_numbers(words[4:7])
    if len(words) != 7 or NO_NUMBER in corner or not all_within(lengths, 1, LONGEST_SIDE):
        return NOT_FORMED
    part = work.latest
    if part is None or work.puts:
        return CANT_STAND
    if any([corner[axis] + lengths[axis] > part.sizes[axis] for axis in range(3)]):
        return CLASHES
    if part.cuts == MOST_CUTS:
        return TOO_MUCH
    part.cuts += 1
    cut_away(part, corner, lengths)
    return NO_FAULT


def cut_away(part, corner, lengths):
    gone = ((1 << lengths[0]) - 1) << corner[0]
    for z in range(corner[2], corner[2] + lengths[2]):
        for y in range(corner[1], corner[1] + lengths[1]):
            row = y + part.sizes[1] * z
            part.rows[row] = part.rows[row] & ~gone


def read_put(work, words):
    corner = read_numbers(words[3:6])
    if len(words) != 6 or not is_name(words[1]) or not all_within(corner, 0, FARTHEST_CORNER):
        return NOT_FORMED
    ways = read_ways(words[2])
    if not ways:
        return NOT_FORMED
    if not work.parts:
        return CANT_STAND
    if words[1] not in work.parts:
        return CLASHES
    if len(work.puts) == MOST_PUTS:
        return TOO_MUCH
    work.puts.append(Put(work.parts[words[1]], ways, corner))
    return NO_FAULT


def read_line(work, line):
    """Takes a line into the work if it is right; gives back why it isn't."""
    words = line.split(" ")
    if words[0] == "part":
        return read_part(work, words)
    if words[0] == "cut":
        return read_cut(work, words)
    if words[0] == "put":
        return read_put(work, words)
    return NOT_FORMED


def read_lines(work, text):
    """Takes a text into the work up to its fault; gives back the fault, or an empty list if there is none."""
    lines = split_lines(text)
    rest = lines.pop()
    for number, line in enumerate(lines):
        why = read_line(work, line)
        if why != NO_FAULT:
            return [number, why]
    if rest != "":
        return [len(lines), NOT_FORMED]
    return []


def put_cells(put):
    """The cells of the grid that a put has."""
    sizes = put.part.sizes
    start = 0
    steps = []
    for axis, way in enumerate(put.ways):
        stride = STRIDES[way // 2]
        start += put.corner[way // 2] * stride
        if way % 2 == 0:
            steps.append(stride)
        else:
            # The axis points down the grid's, so its cell 0 is the one farthest up.
            start += (sizes[axis] - 1) * stride
            steps.append(-stride)
    cells = []
    for number, row in enumerate(put.part.rows):
        row_start = start + (number % sizes[1]) * steps[1] + (number // sizes[1]) * steps[2]
        cells.extend([row_start + x * steps[0] for x in range(sizes[0]) if (row >> x) & 1 == 1])
    return cells


def first_overlap(puts):
    """The first pair of puts that have a cell in common, or an empty list if there is none.

    To keep the first owner of each cell is enough: the first pair of all is the two first owners of some cell.
    """
    owners = {}
    pair = []
    for j, cells in enumerate(puts):
        for cell in cells:
            i = owners.setdefault(cell, j)
            if i != j and (not pair or i < pair[0]):
                pair = [i, j]
    return pair


def read_work(text):
    """Reads a text, with the refusals that every call looks for first."""
    work = Work()
    if len(text) > MOST_BYTES:
        work.refusal = [TOO_LONG]
        return work
    fault = read_lines(work, text)
    if fault:
        work.refusal = [FAULTY] + fault
        return work
    work.cells = [put_cells(put) for put in work.puts]
    pair = first_overlap(work.cells)
    if pair:
        work.refusal = [OVERLAPPING] + pair
    return work

"""stands: who stands in whose way, all six ways and all 24 turns, and the refusals in their order."""

import random
import unittest

from holding.puts import stands
from tests.helper import (
    FAULTY, LARGEST, LONG, OPPOSITE, OVERLAPPING, STEPS, TURNS, UNIT, WAYS, lines, put, put_set, random_works,
    slow_stands,
)


def all_ways(i, *rows):
    return [stands(i, way, lines(*rows)) for way in range(6)]


class Ways(unittest.TestCase):
    def test_each_way_of_the_six(self):
        rows = [UNIT, put(5, 5, 5), put(6, 5, 5), put(4, 5, 5), put(5, 6, 5), put(5, 4, 5), put(5, 5, 6), put(5, 5, 4)]
        self.assertEqual(all_ways(0, *rows), [[1, 1], [1, 2], [1, 3], [1, 4], [1, 5], [1, 6]])

    def test_seen_from_the_others(self):
        rows = [UNIT, put(5, 5, 5), put(6, 5, 5), put(4, 5, 5), put(5, 6, 5), put(5, 4, 5), put(5, 5, 6), put(5, 5, 4)]
        self.assertEqual(all_ways(1, *rows), [[0], [2, 0, 2], [0], [0], [0], [0]])
        self.assertEqual(all_ways(4, *rows), [[0], [0], [2, 0, 3], [0], [0], [0]])
        self.assertEqual(all_ways(5, *rows), [[0], [0], [0], [0], [0], [2, 0, 6]])

    def test_however_far(self):
        for axis in range(3):
            for near, far in ((0, 48), (0, 1), (47, 48), (20, 40)):
                low, high = [3, 4, 5], [3, 4, 5]
                low[axis], high[axis] = near, far
                for rows, i, j in (([put(*low), put(*high)], 0, 1), ([put(*high), put(*low)], 1, 0)):
                    expected = [[0]] * 6
                    expected[2 * axis] = [1, j]
                    self.assertEqual(all_ways(i, UNIT, *rows), expected)
                    expected = [[0]] * 6
                    expected[2 * axis + 1] = [1, i]
                    self.assertEqual(all_ways(j, UNIT, *rows), expected)

    def test_from_end_to_end_of_the_grid(self):
        rows = ["part a 16 1 1 x", UNIT, "put a rb 48 0 0", put(0, 0, 0)]
        self.assertEqual(all_ways(0, *rows), [[0], [1, 1], [0], [0], [0], [0]])
        self.assertEqual(all_ways(1, *rows), [[1, 0], [0], [0], [0], [0], [0]])

    def test_lines_do_not_run_on_into_the_next(self):
        rows = ["part a 16 16 16 x", "put a rb 48 48 0", "put a rb 0 0 48", "put a rb 0 48 24"]
        for i in range(3):
            self.assertEqual(all_ways(i, *rows), [[0]] * 6)

    def test_behind_one_another_in_one_line(self):
        rows = [UNIT] + [put(place, 7, 7) for place in (30, 10, 48, 0, 20)]
        self.assertEqual(stands(0, 0, lines(*rows)), [1, 2])
        self.assertEqual(stands(0, 1, lines(*rows)), [3, 1, 3, 4])
        self.assertEqual(stands(3, 0, lines(*rows)), [4, 0, 1, 2, 4])
        self.assertEqual(stands(2, 1, lines(*rows)), [4, 0, 1, 3, 4])

    def test_in_no_line(self):
        rows = [UNIT, put(5, 5, 5), put(6, 6, 5), put(6, 5, 6), put(5, 6, 6), put(4, 4, 4), put(48, 0, 0)]
        self.assertEqual(all_ways(0, *rows), [[0]] * 6)

    def test_one_put(self):
        self.assertEqual(all_ways(0, UNIT, put(5, 5, 5)), [[0]] * 6)
        self.assertEqual(all_ways(0, "part a 5 5 5 x", "cut 1 1 1 3 3 3", "put a rb 0 0 0"), [[0]] * 6)

    def test_thirty_two_puts(self):
        rows = [UNIT] + [put(number, 0, 0) for number in range(32)]
        self.assertEqual(stands(15, 0, lines(*rows)), [16] + list(range(16, 32)))
        self.assertEqual(stands(31, 1, lines(*rows)), [31] + list(range(31)))
        self.assertEqual(stands(31, 0, lines(*rows)), [0])


class Shapes(unittest.TestCase):
    def test_a_put_that_reaches_round_another(self):
        """A fork, open to the back: what's in it is met by it both ways across, and from the front."""
        rows = ["part a 3 3 1 x", "cut 1 1 0 1 2 1", UNIT, "put a rb 5 5 5", put(6, 7, 5)]
        self.assertEqual(all_ways(0, *rows), [[1, 1], [1, 1], [1, 1], [0], [0], [0]])
        self.assertEqual(all_ways(1, *rows), [[1, 0], [1, 0], [0], [1, 0], [0], [0]])

    def test_a_ring(self):
        rows = ["part a 3 3 1 x", "cut 1 1 0 1 1 1", "part c 1 1 5 x", "put a rb 5 5 5", "put c rb 6 6 3"]
        for i in range(2):
            self.assertEqual(all_ways(i, *rows), [[1, 1 - i]] * 4 + [[0]] * 2)

    def test_a_box(self):
        rows = ["part a 5 5 5 x", "cut 1 1 1 3 3 3", UNIT, "put a rb 5 5 5", put(7, 7, 7)]
        for i in range(2):
            self.assertEqual(all_ways(i, *rows), [[1, 1 - i]] * 6)

    def test_a_gap_lets_through(self):
        rows = ["part a 3 1 3 x", "cut 1 0 1 1 1 1", UNIT, "put a rb 5 5 5", put(6, 9, 6), put(5, 9, 6)]
        self.assertEqual(stands(0, 2, lines(*rows)), [1, 2])
        self.assertEqual(stands(1, 3, lines(*rows)), [0])
        self.assertEqual(stands(2, 3, lines(*rows)), [1, 0])

    def test_a_part_cut_away_whole(self):
        rows = ["part a 3 3 3 x", "cut 0 0 0 3 3 3", UNIT, put(5, 5, 5), "put a rb 6 4 4", put(9, 5, 5)]
        self.assertEqual(all_ways(0, *rows), [[1, 2], [0], [0], [0], [0], [0]])
        self.assertEqual(all_ways(1, *rows), [[0]] * 6)


class Turns(unittest.TestCase):
    """The part is a corner with three arms, each of another length: no two turns of it look alike from all sides."""

    SIZES = (2, 3, 4)
    CUTS = [((1, 1, 0), (1, 2, 4)), ((0, 1, 1), (2, 2, 3)), ((1, 0, 1), (1, 3, 3))]
    ROWS = ["part a 2 3 4 y", "cut 1 1 0 1 2 4", "cut 0 1 1 2 2 3", "cut 1 0 1 1 3 3", UNIT]

    def test_each_turn_from_each_side(self):
        """A part of one cell, far off in each line round about, stands in the way just of the lines that have a cell."""
        shadows = set()
        for turn in TURNS:
            cells = put_set(self.SIZES, self.CUTS, turn, (10, 10, 10))
            told = []
            for way in range(6):
                told.append(self.check_side(turn, way, cells))
            shadows.add(repr(told))
        self.assertEqual(len(shadows), 24)

    def check_side(self, turn, way, cells):
        axis = way // 2
        across = [other for other in range(3) if other != axis]
        shadow = {tuple(cell[other] for other in across) for cell in cells}
        for a in range(9, 15):
            for b in range(9, 15):
                place = [0, 0, 0]
                place[axis] = 40 if way % 2 == 0 else 0
                place[across[0]], place[across[1]] = a, b
                text = lines(*self.ROWS, "put a %s 10 10 10" % turn, put(*place))
                expected = (a, b) in shadow
                self.assertEqual(stands(0, way, text), [1, 1] if expected else [0], (turn, way, place))
                self.assertEqual(stands(1, OPPOSITE[way], text), [1, 0] if expected else [0], (turn, way, place))
                self.assertEqual(stands(0, OPPOSITE[way], text), [0], (turn, way, place))
        return sorted(shadow)

    def test_each_turn_close_by(self):
        """The part of one cell lies beside a cell of the turned part, within its block too."""
        for turn in TURNS:
            cells = put_set(self.SIZES, self.CUTS, turn, (10, 10, 10))
            for cell in cells:
                for way in range(6):
                    beside = tuple(c + s for c, s in zip(cell, STEPS[WAYS[way]]))
                    if beside not in cells:
                        text = lines(*self.ROWS, "put a %s 10 10 10" % turn, put(*beside))
                        self.assertEqual(stands(0, way, text), [1, 1], (turn, cell, way))


class Refusals(unittest.TestCase):
    RIGHT = lines(UNIT, put(0, 0, 0), put(5, 0, 0))

    def test_ways(self):
        self.assertEqual(stands(0, 0, self.RIGHT), [1, 1])
        self.assertEqual(stands(0, 5, self.RIGHT), [0])
        for way in (6, 7, 255, 4294967290, LARGEST):
            self.assertEqual(stands(0, way, self.RIGHT), [-1], way)

    def test_puts(self):
        self.assertEqual(stands(1, 1, self.RIGHT), [1, 0])
        for i in (2, 3, 32, LARGEST):
            self.assertEqual(stands(i, 0, self.RIGHT), [-4], i)

    def test_no_puts_at_all(self):
        for text in ([], lines(UNIT)):
            for way in range(6):
                self.assertEqual(stands(0, way, text), [-4])
            self.assertEqual(stands(0, 6, text), [-1])

    def test_the_32nd_put(self):
        text = lines(UNIT, *[put(number, 0, 0) for number in range(32)])
        self.assertEqual(stands(31, 0, text), [0])
        self.assertEqual(stands(32, 0, text), [-4])

    def test_overlap(self):
        self.assertEqual(stands(0, 0, OVERLAPPING), [-9, 1, 2])

    def test_faults(self):
        self.assertEqual(stands(0, 0, FAULTY), [-6, 3, 1])
        self.assertEqual(stands(0, 0, lines("put b rb 0 0 0")), [-6, 0, 3])
        self.assertEqual(stands(0, 0, lines(UNIT, UNIT)), [-6, 1, 4])
        self.assertEqual(stands(0, 0, lines(UNIT, *[put(number, 0, 0) for number in range(33)])), [-6, 33, 2])
        self.assertEqual(stands(0, 0, self.RIGHT[:-1]), [-6, 2, 1])

    def test_too_long(self):
        self.assertEqual(stands(0, 0, LONG), [-2])
        self.assertEqual(stands(0, 0, [10] * 65537), [-2])
        self.assertEqual(stands(0, 0, [10] * 65536), [-6, 0, 1])

    def test_their_order(self):
        for i, way in ((0, 6), (9, 0), (9, 6), (LARGEST, LARGEST)):
            self.assertEqual(stands(i, way, LONG), [-2])
            self.assertEqual(stands(i, way, FAULTY), [-6, 3, 1])
            self.assertEqual(stands(i, way, OVERLAPPING), [-9, 1, 2])
        self.assertEqual(stands(9, 6, self.RIGHT), [-1])
        self.assertEqual(stands(LARGEST, LARGEST, self.RIGHT), [-1])
        self.assertEqual(stands(LARGEST, 5, self.RIGHT), [-4])


class AgainstTheSlowWay(unittest.TestCase):
    def test_random_works(self):
        counts = set()
        for rows in random_works(4, 60, spread=8, most_puts=12):
            text = lines(*rows)
            for i in range(sum(row.startswith("put ") for row in rows)):
                for way in range(6):
                    answer = stands(i, way, text)
                    counts.add(answer[0])
                    self.assertEqual(answer, slow_stands(i, way, text), (rows, i, way))
        self.assertTrue({0, 1, 2, 3} <= counts)

    def test_crowded_works(self):
        dice = random.Random(5)
        for rows in random_works(6, 25, most_side=5, spread=6, most_puts=20):
            text = lines(*rows)
            for count in range(12):
                i, way = dice.randrange(9), dice.randrange(7)
                self.assertEqual(stands(i, way, text), slow_stands(i, way, text), (rows, i, way))


if __name__ == "__main__":
    unittest.main()

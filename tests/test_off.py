"""off: whether one set of puts comes off another, and the refusals in their order."""

import random
import unittest

from holding.puts import off
from tests.helper import (
    FAULTY, LARGEST, LONG, NO_SETS, OPPOSITE, OVERLAPPING, ROW, UNIT, lines, put, random_works, slow_off,
)

# Put 0 in the middle, put 1 to the right of it, 2 to its left, 3 back, 4 front, 5 up, 6 down.
STAR = lines(UNIT, put(5, 5, 5), put(6, 5, 5), put(4, 5, 5), put(5, 6, 5), put(5, 4, 5), put(5, 5, 6), put(5, 5, 4))


def all_ways(text, numbers, others):
    return [off(way, text, numbers, others) for way in range(6)]


class Sets(unittest.TestCase):
    def test_each_way_of_the_six(self):
        for way in range(6):
            expected = [[1]] * 6
            expected[way] = [0]
            self.assertEqual(all_ways(STAR, [0], [way + 1]), expected)
            expected = [[1]] * 6
            expected[OPPOSITE[way]] = [0]
            self.assertEqual(all_ways(STAR, [way + 1], [0]), expected)

    def test_all_others(self):
        self.assertEqual(all_ways(STAR, [0], [1, 2, 3, 4, 5, 6]), [[0]] * 6)
        self.assertEqual(all_ways(STAR, [1, 2, 3, 4, 5, 6], [0]), [[0]] * 6)
        self.assertEqual(all_ways(STAR, [1], [0, 2, 3, 4, 5, 6]), [[1], [0], [1], [1], [1], [1]])
        self.assertEqual(all_ways(STAR, [0, 2, 3, 4, 5, 6], [1]), [[0], [1], [1], [1], [1], [1]])

    def test_puts_of_neither_set_do_not_matter(self):
        self.assertEqual(all_ways(STAR, [1], [3]), [[1]] * 6)
        self.assertEqual(all_ways(STAR, [1], [2, 4]), [[1], [0], [1], [1], [1], [1]])
        self.assertEqual(off(0, ROW, [1], [0]), [1])
        self.assertEqual(off(0, ROW, [0], [2]), [0])

    def test_puts_of_one_set_do_not_hinder_one_another(self):
        self.assertEqual(off(0, ROW, [2, 3], [0, 1]), [1])
        self.assertEqual(off(0, ROW, [1, 2, 3], [0]), [1])
        self.assertEqual(off(0, ROW, [3], [0, 1, 2]), [1])
        self.assertEqual(off(1, ROW, [0], [1, 2, 3]), [1])
        self.assertEqual(off(1, ROW, [0, 1], [2, 3]), [1])
        self.assertEqual(off(1, ROW, [0, 1, 2], [3]), [1])

    def test_one_in_the_way_is_enough(self):
        """It may be the first or the last of either set."""
        self.assertEqual(off(0, ROW, [0, 3], [2]), [0])
        self.assertEqual(off(0, ROW, [0, 3], [1, 2]), [0])
        self.assertEqual(off(0, ROW, [1, 3], [0, 2]), [0])
        self.assertEqual(off(1, ROW, [0, 3], [2]), [0])
        self.assertEqual(off(1, ROW, [0, 2], [1, 3]), [0])
        self.assertEqual(off(1, ROW, [0, 2], [3]), [1])

    def test_only_straight_meetings_count(self):
        """What stands in the way of what stands in the way is not met itself."""
        text = lines(UNIT, "part c 1 2 1 x", put(0, 0, 0), "put c rb 2 0 0", put(4, 1, 0))
        self.assertEqual(off(0, text, [0], [2]), [1])
        self.assertEqual(off(0, text, [0], [1]), [0])
        self.assertEqual(off(0, text, [0, 1], [2]), [0])
        self.assertEqual(off(0, text, [2], [0, 1]), [1])

    def test_however_far(self):
        text = lines("part a 16 16 16 x", UNIT, "put a rb 48 48 48", put(0, 48, 48), put(48, 0, 48), put(48, 48, 0))
        self.assertEqual(all_ways(text, [0], [1]), [[1], [0], [1], [1], [1], [1]])
        self.assertEqual(all_ways(text, [0], [2]), [[1], [1], [1], [0], [1], [1]])
        self.assertEqual(all_ways(text, [0], [3]), [[1], [1], [1], [1], [1], [0]])
        self.assertEqual(all_ways(text, [1, 2, 3], [0]), [[0], [1], [0], [1], [0], [1]])

    def test_a_ring_and_a_box(self):
        ring = lines("part a 3 3 1 x", "cut 1 1 0 1 1 1", "part c 1 1 5 x", "put a rb 5 5 5", "put c rb 6 6 3")
        box = lines("part a 5 5 5 x", "cut 1 1 1 3 3 3", UNIT, "put a rb 5 5 5", put(7, 7, 7), put(20, 20, 20))
        for i in range(2):
            self.assertEqual(all_ways(ring, [i], [1 - i]), [[0]] * 4 + [[1]] * 2)
            self.assertEqual(all_ways(box, [i], [1 - i]), [[0]] * 6)
        self.assertEqual(all_ways(box, [0, 1], [2]), [[1]] * 6)
        self.assertEqual(all_ways(box, [0, 2], [1]), [[0]] * 6)

    def test_a_part_cut_away_whole(self):
        text = lines("part a 3 3 3 x", "cut 0 0 0 3 3 3", UNIT, put(5, 5, 5), "put a rb 6 4 4", put(9, 5, 5))
        self.assertEqual(all_ways(text, [0], [1]), [[1]] * 6)
        self.assertEqual(all_ways(text, [1], [0, 2]), [[1]] * 6)

    def test_thirty_two_puts(self):
        text = lines(UNIT, *[put(number, 0, 0) for number in range(32)])
        everything = list(range(32))
        for cut in range(1, 32):
            self.assertEqual(off(0, text, everything[cut:], everything[:cut]), [1])
            self.assertEqual(off(1, text, everything[cut:], everything[:cut]), [0])
            self.assertEqual(off(0, text, everything[:cut], everything[cut:]), [0])
            self.assertEqual(off(1, text, everything[:cut], everything[cut:]), [1])
        self.assertEqual(all_ways(text, everything[::2], everything[1::2]), [[0]] * 2 + [[1]] * 4)


class Refusals(unittest.TestCase):
    def test_ways(self):
        self.assertEqual(off(5, ROW, [0], [1]), [1])
        for way in (6, 7, 255, LARGEST - 1, LARGEST):
            self.assertEqual(off(way, ROW, [0], [1]), [-1], way)

    def test_no_sets(self):
        for numbers in NO_SETS:
            for way in (0, 5):
                self.assertEqual(off(way, ROW, numbers, [3]), [-8], numbers)
                self.assertEqual(off(way, ROW, [3], numbers), [-8], numbers)
                self.assertEqual(off(way, ROW, numbers, numbers), [-8], numbers)

    def test_a_put_in_both(self):
        pairs = (([0], [0]), ([0, 1], [1, 2]), ([0, 1], [0, 2]), ([1, 3], [2, 3]), ([0, 1, 2, 3], [2]),
                 ([2], [0, 1, 2, 3]), ([0, 1, 2, 3], [0, 1, 2, 3]), ([0, 3], [1, 2, 3]), ([1, 2], [0, 1]))
        for numbers, others in pairs:
            for way in range(6):
                self.assertEqual(off(way, ROW, numbers, others), [-8], (numbers, others))

    def test_the_32nd_put(self):
        text = lines(UNIT, *[put(number, 0, 0) for number in range(32)])
        self.assertEqual(off(0, text, [31], list(range(31))), [1])
        self.assertEqual(off(0, text, [0], [31]), [0])
        self.assertEqual(off(0, text, [32], list(range(31))), [-8])
        self.assertEqual(off(0, text, [0], [32]), [-8])
        self.assertEqual(off(0, text, [0], list(range(1, 33))), [-8])
        self.assertEqual(off(0, text, list(range(1, 33)), [0]), [-8])

    def test_no_puts_at_all(self):
        for text in ([], lines(UNIT)):
            for numbers, others in (([], []), ([0], []), ([], [0]), ([0], [1]), ([LARGEST], [0])):
                self.assertEqual(off(0, text, numbers, others), [-8])
                self.assertEqual(off(5, text, numbers, others), [-8])
                self.assertEqual(off(6, text, numbers, others), [-1])

    def test_one_put(self):
        self.assertEqual(off(0, lines(UNIT, put(0, 0, 0)), [0], [0]), [-8])
        self.assertEqual(off(0, lines(UNIT, put(0, 0, 0)), [0], [1]), [-8])
        self.assertEqual(off(0, lines(UNIT, put(0, 0, 0)), [0], []), [-8])

    def test_those_of_every_call(self):
        self.assertEqual(off(0, OVERLAPPING, [0], [1]), [-9, 1, 2])
        self.assertEqual(off(0, FAULTY, [0], [1]), [-6, 3, 1])
        self.assertEqual(off(0, lines("put b rb 0 0 0"), [0], [1]), [-6, 0, 3])
        self.assertEqual(off(0, lines(UNIT, UNIT), [0], [1]), [-6, 1, 4])
        self.assertEqual(off(0, lines(UNIT, *[put(number, 0, 0) for number in range(33)]), [0], [1]), [-6, 33, 2])
        self.assertEqual(off(0, ROW[:-1], [0], [1]), [-6, 4, 1])
        self.assertEqual(off(0, LONG, [0], [1]), [-2])
        self.assertEqual(off(0, [10] * 65537, [0], [1]), [-2])
        self.assertEqual(off(0, [10] * 65536, [0], [1]), [-6, 0, 1])

    def test_their_order(self):
        for way in (0, 6, LARGEST):
            for numbers, others in (([0], [1]), ([], [1]), ([0], []), ([1, 0], [2]), ([0], [0]), ([0], [LARGEST] * 99)):
                told = (way, numbers, others)
                self.assertEqual(off(way, LONG, numbers, others), [-2], told)
                self.assertEqual(off(way, FAULTY, numbers, others), [-6, 3, 1], told)
                self.assertEqual(off(way, OVERLAPPING, numbers, others), [-9, 1, 2], told)
                right = [-1] if way > 5 else [0] if (numbers, others) == ([0], [1]) else [-8]
                self.assertEqual(off(way, ROW, numbers, others), right, told)


class AgainstTheSlowWay(unittest.TestCase):
    def test_random_works(self):
        dice = random.Random(15)
        told = {0: 0, 1: 0}
        for rows in random_works(16, 50, most_side=3, spread=4, most_puts=14):
            text = lines(*rows)
            count = sum(row.startswith("put ") for row in rows)
            for turn in range(12 if count > 1 else 0):
                mixed = dice.sample(range(count), dice.randint(2, count))
                cut = dice.randint(1, len(mixed) - 1)
                numbers, others, way = sorted(mixed[:cut]), sorted(mixed[cut:]), dice.randrange(6)
                answer = off(way, text, numbers, others)
                told[answer[0]] += 1
                self.assertEqual(answer, slow_off(way, text, numbers, others), (rows, way, numbers, others))
        self.assertGreater(min(told.values()), 50)

    def test_random_lists(self):
        dice = random.Random(17)
        told = set()
        for rows in random_works(18, 40, most_side=3, spread=3, most_puts=10):
            text = lines(*rows)
            for turn in range(25):
                numbers, others = [[dice.randrange(7) for count in range(dice.randrange(4))] for which in range(2)]
                way = dice.randrange(7)
                answer = off(way, text, numbers, others)
                told.add(answer[0])
                self.assertEqual(answer, slow_off(way, text, numbers, others), (rows, way, numbers, others))
        self.assertEqual(told, {0, 1, -1, -8})


if __name__ == "__main__":
    unittest.main()

"""along: what comes along with a put of a set, and the refusals in their order."""

import random
import unittest

from holding.puts import along
from tests.helper import FAULTY, LARGEST, LONG, NO_SETS, OVERLAPPING, ROW, UNIT, lines, put, random_works, slow_along

# Drawn to the right each meets the next alone: a stair of parts that reach over one line of the next.
STAIR = ["part a 1 2 1 x"] + ["put a rb %d %d 7" % (step, step) for step in range(32)]
STAIR_DOWN = STAIR[:1] + STAIR[:0:-1]


class Rows(unittest.TestCase):
    def test_all_puts(self):
        everything = [0, 1, 2, 3]
        self.assertEqual(along(0, 0, ROW, everything), [4, 0, 1, 2, 3])
        self.assertEqual(along(1, 0, ROW, everything), [3, 1, 2, 3])
        self.assertEqual(along(2, 0, ROW, everything), [2, 2, 3])
        self.assertEqual(along(3, 0, ROW, everything), [1, 3])
        self.assertEqual(along(0, 1, ROW, everything), [1, 0])
        self.assertEqual(along(1, 1, ROW, everything), [2, 0, 1])
        self.assertEqual(along(3, 1, ROW, everything), [4, 0, 1, 2, 3])

    def test_ways_across(self):
        for i in range(4):
            for way in (2, 3, 4, 5):
                self.assertEqual(along(i, way, ROW, [0, 1, 2, 3]), [1, i])

    def test_each_way_of_the_six(self):
        text = lines(UNIT, put(5, 5, 5), put(6, 5, 5), put(4, 5, 5), put(5, 6, 5), put(5, 4, 5), put(5, 5, 6),
                     put(5, 5, 4))
        everything = [0, 1, 2, 3, 4, 5, 6]
        for way in range(6):
            self.assertEqual(along(0, way, text, everything), [2, 0, way + 1])
        self.assertEqual(along(2, 0, text, everything), [3, 0, 1, 2])
        self.assertEqual(along(4, 2, text, everything), [3, 0, 3, 4])
        self.assertEqual(along(5, 5, text, everything), [3, 0, 5, 6])

    def test_a_set_of_one(self):
        for i in range(4):
            for way in range(6):
                self.assertEqual(along(i, way, ROW, [i]), [1, i])

    def test_puts_outside_of_the_set_stay(self):
        self.assertEqual(along(0, 0, ROW, [0, 3]), [2, 0, 3])
        self.assertEqual(along(0, 0, ROW, [0, 1]), [2, 0, 1])
        self.assertEqual(along(1, 0, ROW, [0, 1]), [1, 1])
        self.assertEqual(along(2, 1, ROW, [1, 2, 3]), [2, 1, 2])

    def test_at_the_ends_of_the_set(self):
        self.assertEqual(along(1, 0, ROW, [1, 2, 3]), [3, 1, 2, 3])
        self.assertEqual(along(1, 1, ROW, [1, 2, 3]), [1, 1])
        self.assertEqual(along(3, 0, ROW, [1, 2, 3]), [1, 3])
        self.assertEqual(along(3, 1, ROW, [1, 2, 3]), [3, 1, 2, 3])

    def test_rising_though_i_is_the_greatest(self):
        text = lines(UNIT, put(9, 0, 0), put(3, 0, 0), put(6, 0, 0), put(0, 0, 0))
        self.assertEqual(along(3, 0, text, [0, 1, 2, 3]), [4, 0, 1, 2, 3])
        self.assertEqual(along(2, 0, text, [0, 1, 2, 3]), [2, 0, 2])
        self.assertEqual(along(1, 0, text, [0, 1, 3]), [2, 0, 1])

    def test_an_only_put(self):
        for way in range(6):
            self.assertEqual(along(0, way, lines(UNIT, put(0, 0, 0)), [0]), [1, 0])


class AndSoOn(unittest.TestCase):
    """What stands in the way of what stands in the way comes along, too."""

    def test_one_step_on(self):
        text = lines(UNIT, "part c 1 2 1 x", put(0, 0, 0), "put c rb 2 0 0", put(4, 1, 0))
        self.assertEqual(along(0, 0, text, [0, 1, 2]), [3, 0, 1, 2])
        self.assertEqual(along(1, 0, text, [0, 1, 2]), [2, 1, 2])
        self.assertEqual(along(2, 1, text, [0, 1, 2]), [3, 0, 1, 2])

    def test_not_through_a_put_outside_of_the_set(self):
        text = lines(UNIT, "part c 1 2 1 x", put(0, 0, 0), "put c rb 2 0 0", put(4, 1, 0))
        self.assertEqual(along(0, 0, text, [0, 2]), [1, 0])
        self.assertEqual(along(2, 1, text, [0, 2]), [1, 2])
        self.assertEqual(along(0, 0, text, [0, 1]), [2, 0, 1])

    def test_many_steps_on(self):
        everything = list(range(32))
        for i in everything:
            self.assertEqual(along(i, 0, lines(*STAIR), everything), [32 - i] + everything[i:])
            self.assertEqual(along(i, 1, lines(*STAIR), everything), [i + 1] + everything[:i + 1])

    def test_many_steps_on_with_falling_numbers(self):
        everything = list(range(32))
        for i in everything:
            self.assertEqual(along(i, 0, lines(*STAIR_DOWN), everything), [i + 1] + everything[:i + 1])
            self.assertEqual(along(i, 1, lines(*STAIR_DOWN), everything), [32 - i] + everything[i:])

    def test_a_stair_with_a_step_left_out(self):
        some = [k for k in range(32) if k != 9]
        self.assertEqual(along(4, 0, lines(*STAIR), some), [5, 4, 5, 6, 7, 8])
        self.assertEqual(along(10, 0, lines(*STAIR), some), [22] + list(range(10, 32)))
        self.assertEqual(along(31, 1, lines(*STAIR), some), [22] + list(range(10, 32)))

    def test_two_branches(self):
        text = lines(UNIT, "part c 1 3 1 x", put(9, 4, 0), "put c rb 0 4 0", put(9, 6, 0), put(9, 8, 0), put(12, 6, 0))
        self.assertEqual(along(1, 0, text, [0, 1, 2, 3, 4]), [4, 0, 1, 2, 4])
        self.assertEqual(along(1, 0, text, [0, 1, 3, 4]), [3, 0, 1, 4])
        self.assertEqual(along(1, 0, text, [0, 1, 3]), [2, 0, 1])


class Held(unittest.TestCase):
    def test_a_ring(self):
        """Held across the ring, free along the rod."""
        text = lines("part a 3 3 1 x", "cut 1 1 0 1 1 1", "part c 1 1 5 x", "put a rb 5 5 5", "put c rb 6 6 3")
        for i in range(2):
            for way in range(4):
                self.assertEqual(along(i, way, text, [0, 1]), [2, 0, 1])
            for way in (4, 5):
                self.assertEqual(along(i, way, text, [0, 1]), [1, i])

    def test_a_box(self):
        text = lines("part a 5 5 5 x", "cut 1 1 1 3 3 3", UNIT, "put a rb 5 5 5", put(7, 7, 7), put(30, 30, 30))
        for i in range(2):
            for way in range(6):
                self.assertEqual(along(i, way, text, [0, 1]), [2, 0, 1])
                self.assertEqual(along(i, way, text, [0, 1, 2]), [2, 0, 1])
        for way in range(6):
            self.assertEqual(along(2, way, text, [0, 1, 2]), [1, 2])

    def test_round_about_in_three(self):
        """Forks that each hold the next: each way along the forks all come with each."""
        rows = ["part a 3 1 1 x", "cut 1 0 0 1 1 1", "part c 1 3 1 x"]
        text = lines(*rows, "put a rb 0 0 0", "put c rb 1 0 0", "put a rb 0 2 0")
        for i in range(3):
            for way in (0, 1):
                self.assertEqual(along(i, way, text, [0, 1, 2]), [3, 0, 1, 2])
        self.assertEqual(along(0, 0, text, [0, 2]), [1, 0])

    def test_a_part_cut_away_whole(self):
        text = lines("part a 3 3 3 x", "cut 0 0 0 3 3 3", UNIT, put(5, 5, 5), "put a rb 6 4 4", put(9, 5, 5))
        self.assertEqual(along(0, 0, text, [0, 1, 2]), [2, 0, 2])
        for way in range(6):
            self.assertEqual(along(1, way, text, [0, 1, 2]), [1, 1])


class Refusals(unittest.TestCase):
    def test_ways(self):
        self.assertEqual(along(0, 5, ROW, [0, 1]), [1, 0])
        for way in (6, 7, 255, LARGEST - 1, LARGEST):
            self.assertEqual(along(0, way, ROW, [0, 1]), [-1], way)

    def test_puts(self):
        self.assertEqual(along(3, 1, ROW, [2, 3]), [2, 2, 3])
        for i in (4, 5, 32, LARGEST):
            self.assertEqual(along(i, 0, ROW, [0, 1, 2, 3]), [-4], i)

    def test_no_sets(self):
        for numbers in NO_SETS:
            for i in range(4):
                for way in (0, 5):
                    self.assertEqual(along(i, way, ROW, numbers), [-8], (i, numbers))

    def test_a_set_without_i(self):
        for i, numbers in ((0, [1, 2, 3]), (3, [0, 1, 2]), (1, [0, 2, 3]), (2, [3]), (0, [1])):
            self.assertEqual(along(i, 0, ROW, numbers), [-8], (i, numbers))

    def test_the_32nd_put(self):
        text = lines(*STAIR)
        self.assertEqual(along(31, 0, text, list(range(32))), [1, 31])
        self.assertEqual(along(31, 0, text, [31]), [1, 31])
        self.assertEqual(along(32, 0, text, list(range(32))), [-4])
        self.assertEqual(along(31, 0, text, list(range(33))), [-8])
        self.assertEqual(along(31, 0, text, list(range(1, 33))), [-8])
        self.assertEqual(along(0, 0, text, [0, 32]), [-8])

    def test_no_puts_at_all(self):
        for text in ([], lines(UNIT)):
            for numbers in ([], [0], [0, 1], [LARGEST]):
                self.assertEqual(along(0, 0, text, numbers), [-4])
                self.assertEqual(along(LARGEST, 5, text, numbers), [-4])
                self.assertEqual(along(0, 6, text, numbers), [-1])

    def test_those_of_every_call(self):
        self.assertEqual(along(0, 0, OVERLAPPING, [0]), [-9, 1, 2])
        self.assertEqual(along(0, 0, FAULTY, [0]), [-6, 3, 1])
        self.assertEqual(along(0, 0, lines("put b rb 0 0 0"), [0]), [-6, 0, 3])
        self.assertEqual(along(0, 0, lines(UNIT, UNIT), [0]), [-6, 1, 4])
        self.assertEqual(along(0, 0, lines(*STAIR, STAIR[1]), [0]), [-6, 33, 2])
        self.assertEqual(along(0, 0, ROW[:-1], [0]), [-6, 4, 1])
        self.assertEqual(along(0, 0, LONG, [0]), [-2])
        self.assertEqual(along(0, 0, [10] * 65537, [0]), [-2])
        self.assertEqual(along(0, 0, [10] * 65536, [0]), [-6, 0, 1])

    def test_their_order(self):
        for i in (0, 4, LARGEST):
            for way in (0, 6, LARGEST):
                for numbers in ([0], [], [1, 0], [LARGEST] * 100):
                    told = (i, way, numbers)
                    self.assertEqual(along(i, way, LONG, numbers), [-2], told)
                    self.assertEqual(along(i, way, FAULTY, numbers), [-6, 3, 1], told)
                    self.assertEqual(along(i, way, OVERLAPPING, numbers), [-9, 1, 2], told)
                    right = [-1] if way > 5 else [-4] if i > 3 else [-8] if numbers != [0] else [4, 0, 1, 2, 3]
                    numbers = [0, 1, 2, 3] if numbers == [0] else numbers
                    self.assertEqual(along(i, way, ROW, numbers), right, told)


class AgainstTheSlowWay(unittest.TestCase):
    def test_random_works(self):
        dice = random.Random(11)
        counts = set()
        for rows in random_works(12, 50, most_side=3, spread=4, most_puts=14):
            text = lines(*rows)
            count = sum(row.startswith("put ") for row in rows)
            for turn in range(30):
                numbers = sorted(dice.sample(range(count), dice.randint(1, count)))
                i, way = dice.choice(numbers), dice.randrange(6)
                answer = along(i, way, text, numbers)
                counts.add((answer[0], answer[0] == len(numbers)))
                self.assertEqual(answer, slow_along(i, way, text, numbers), (rows, i, way, numbers))
        self.assertTrue({(1, False), (2, False), (3, False), (4, False), (2, True), (3, True)} <= counts, counts)

    def test_random_lists(self):
        dice = random.Random(13)
        told = set()
        for rows in random_works(14, 30, most_side=3, spread=4, most_puts=8):
            text = lines(*rows)
            for turn in range(20):
                numbers = [dice.randrange(6) for count in range(dice.randrange(5))]
                numbers = sorted(numbers) if dice.random() < 0.5 else numbers
                i, way = dice.randrange(6), dice.randrange(7)
                answer = along(i, way, text, numbers)
                told.add(min(answer[0], 1))
                self.assertEqual(answer, slow_along(i, way, text, numbers), (rows, i, way, numbers))
        self.assertEqual(told, {1, -1, -4, -8})


if __name__ == "__main__":
    unittest.main()

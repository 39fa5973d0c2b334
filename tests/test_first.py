"""first: a set's first move, and the refusals in their order."""

import random
import unittest

from holding.puts import first
from tests.helper import (
    BOX, DRAWER, KNOT, LARGEST, ROW, UNIT, SetRefusals, chain, lines, put, random_tangles, random_works, slow_first,
)

# A block with a hole that is open one way, and a rod in the hole: way, what is cut, where the rod lies.
HOLES = (
    (0, "cut 1 1 1 2 1 1", "put c ub 6 6 6"),
    (1, "cut 0 1 1 2 1 1", "put c ub 5 6 6"),
    (2, "cut 1 1 1 1 2 1", "put c ru 6 6 6"),
    (3, "cut 1 0 1 1 2 1", "put c ru 6 5 6"),
    (4, "cut 1 1 1 1 1 2", "put c rb 6 6 6"),
    (5, "cut 1 1 0 1 1 2", "put c rb 6 6 5"),
)


def hole(cut, rod):
    return ["part a 3 3 3 x", cut, "part c 1 1 2 z", "put a rb 5 5 5", rod]


class Moves(unittest.TestCase):
    def test_a_row(self):
        self.assertEqual(first(ROW, [0, 1, 2, 3]), [0, 0, 3, 1, 2, 3, 1, 0])
        self.assertEqual(first(ROW, [1, 2, 3]), [0, 0, 2, 2, 3, 1, 1])
        self.assertEqual(first(ROW, [0, 3]), [0, 0, 1, 3, 1, 0])

    def test_two_puts_each_way_of_the_six(self):
        """Whoever is farther out to the right comes off; beside one another to the right put 0 does."""
        for place, expected in (((6, 5, 5), [0, 0, 1, 1, 1, 0]), ((4, 5, 5), [0, 0, 1, 0, 1, 1]),
                                ((5, 6, 5), [0, 0, 1, 0, 1, 1]), ((5, 4, 5), [0, 0, 1, 0, 1, 1]),
                                ((5, 5, 6), [0, 0, 1, 0, 1, 1]), ((5, 5, 4), [0, 0, 1, 0, 1, 1])):
            self.assertEqual(first(lines(UNIT, put(5, 5, 5), put(*place)), [0, 1]), expected, place)

    def test_rising_though_the_work_is_not(self):
        text = lines(UNIT, put(9, 0, 0), put(3, 0, 0), put(6, 0, 0), put(0, 0, 0))
        self.assertEqual(first(text, [0, 1, 2, 3]), [0, 0, 1, 0, 3, 1, 2, 3])
        self.assertEqual(first(text, [1, 2, 3]), [0, 0, 2, 1, 2, 1, 3])
        self.assertEqual(first(text, [2, 3]), [0, 0, 1, 2, 1, 3])
        self.assertEqual(first(text, [1, 3]), [0, 0, 1, 1, 1, 3])

    def test_puts_in_order(self):
        """The first put that isn't held, though one behind it would bring fewer along."""
        text = lines(UNIT, put(0, 0, 0), put(3, 0, 0), put(6, 0, 0), put(9, 0, 0), put(0, 9, 0))
        self.assertEqual(first(text, [0, 1, 2, 3, 4]), [0, 0, 4, 0, 1, 2, 3, 1, 4])
        self.assertEqual(first(text, [1, 2, 3, 4]), [0, 0, 3, 1, 2, 3, 1, 4])

    def test_ways_ahead_of_puts(self):
        """At way 0 the last put alone isn't held; at way 2 the first isn't either."""
        text = lines(UNIT, "part c 1 3 1 x", put(2, 2, 0), "put c rb 0 2 0", put(2, 4, 0), "put c rb 4 2 0")
        self.assertEqual(first(text, [0, 1]), [0, 0, 1, 0, 1, 1])
        self.assertEqual(first(text, [1, 3]), [0, 0, 1, 3, 1, 1])
        self.assertEqual(first(text, [0, 1, 2, 3]), [0, 0, 2, 0, 3, 2, 1, 2])
        self.assertEqual(first(ROW, [2, 3]), [0, 0, 1, 3, 1, 2])

    def test_a_hole_open_one_way(self):
        """Open to the right, the back or up the rod comes out; else the block is drawn off the opposite way."""
        for way, cut, rod in HOLES:
            expected = [0, way, 1, 1, 1, 0] if way % 2 == 0 else [0, way - 1, 1, 0, 1, 1]
            self.assertEqual(first(lines(*hole(cut, rod)), [0, 1]), expected, way)

    def test_the_last_put_alone(self):
        """Box and cell hold one another; the rod on the box is held by neither, upwards alone."""
        box = ["part a 5 5 7 x", "cut 1 1 1 3 3 3", "cut 2 2 5 1 1 2", UNIT, "part c 1 1 2 z"]
        text = lines(*box, "put a rb 5 5 5", put(7, 7, 7), "put c rb 7 7 10")
        self.assertEqual(first(text, [0, 1, 2]), [0, 4, 1, 2, 2, 0, 1])
        self.assertEqual(first(text, [0, 2]), [0, 4, 1, 2, 1, 0])

    def test_downwards_alone(self):
        """What can be drawn down is told by its rest, which then can be drawn up, a way ahead of down."""
        box = ["part a 5 5 7 x", "cut 1 1 3 3 3 3", "cut 2 2 0 1 1 2", UNIT, "part c 1 1 2 z"]
        text = lines(*box, "put c rb 7 7 5", "put a rb 5 5 5", put(7, 7, 9))
        self.assertEqual(first(text, [0, 1, 2]), [0, 4, 2, 1, 2, 1, 0])
        self.assertEqual(first(text, [0, 1]), [0, 4, 1, 1, 1, 0])

    def test_only_the_even_ways(self):
        """What comes off its rest one way, the rest comes off from the opposite way: so 1, 3 and 5 are never told."""
        ways = set()
        for rows in random_tangles(31, 150, most_puts=5):
            answer = first(lines(*rows), list(range(sum(row.startswith("put ") for row in rows))))
            ways.update(answer[1:2])
        self.assertEqual(ways, {0, 2, 4})

    def test_several_come_together(self):
        self.assertEqual(first(lines(*DRAWER), [0, 1, 2]), [0, 0, 2, 1, 2, 1, 0])
        self.assertEqual(first(lines(*DRAWER), [1, 2]), [0, 4, 1, 1, 1, 2])
        self.assertEqual(first(lines(*DRAWER), [0, 1]), [0, 0, 1, 1, 1, 0])

    def test_puts_outside_of_the_set_do_not_hinder(self):
        text = lines(UNIT, "part c 1 2 1 x", put(0, 0, 0), "put c rb 2 0 0", put(4, 1, 0))
        self.assertEqual(first(text, [0, 1, 2]), [0, 0, 2, 1, 2, 1, 0])
        self.assertEqual(first(text, [0, 2]), [0, 0, 1, 0, 1, 2])
        boxed = lines("part a 5 5 5 x", "cut 1 1 1 3 3 3", UNIT, "put a rb 5 5 5", put(6, 7, 7), put(8, 7, 7))
        self.assertEqual(first(boxed, [1, 2]), [0, 0, 1, 2, 1, 1])

    def test_a_part_cut_away_whole(self):
        text = lines("part a 3 3 3 x", "cut 0 0 0 3 3 3", UNIT, put(5, 5, 5), "put a rb 6 4 4", put(9, 5, 5))
        self.assertEqual(first(text, [0, 1, 2]), [0, 0, 2, 0, 2, 1, 1])
        self.assertEqual(first(text, [1, 2]), [0, 0, 1, 1, 1, 2])

    def test_thirty_two_puts(self):
        text = lines(UNIT, *[put(number, 0, 0) for number in range(32)])
        everything = list(range(32))
        self.assertEqual(first(text, everything), [0, 0, 31] + everything[1:] + [1, 0])
        self.assertEqual(first(text, [0, 31]), [0, 0, 1, 31, 1, 0])
        self.assertEqual(first(text, everything[::2]), [0, 0, 15] + everything[2::2] + [1, 0])


class Locked(unittest.TestCase):
    def test_one_put(self):
        for i in range(4):
            self.assertEqual(first(ROW, [i]), [-3])
        self.assertEqual(first(lines(UNIT, put(0, 0, 0)), [0]), [-3])
        self.assertEqual(first(lines(*BOX), [0]), [-3])

    def test_at_once(self):
        self.assertEqual(first(lines(*BOX), [0, 1]), [-3])
        for count in (2, 3, 17):
            self.assertEqual(first(lines(*chain(count)), list(range(count))), [-3], count)

    def test_three_that_are_not_locked_by_twos(self):
        text = lines(*KNOT)
        self.assertEqual(first(text, [0, 1, 2]), [-3])
        for some in ([0, 1], [0, 2], [1, 2]):
            answer = first(text, some)
            self.assertEqual([answer[0], answer[2], answer[4]], [0, 1, 1])

    def test_a_chain_without_a_link(self):
        text = lines(*chain(5))
        self.assertEqual(first(text, [0, 1, 3, 4]), [0, 0, 2, 3, 4, 2, 0, 1])
        self.assertEqual(first(text, [0, 2]), [0, 0, 1, 2, 1, 0])
        self.assertEqual(first(text, [1, 2, 3]), [-3])

    def test_after_some_moves(self):
        text = lines(*BOX, put(30, 30, 30), put(7, 7, 30))
        self.assertEqual(first(text, [0, 1, 2, 3]), [0, 0, 2, 0, 1, 2, 2, 3])
        self.assertEqual(first(text, [0, 1]), [-3])
        self.assertEqual(first(text, [2, 3]), [0, 0, 1, 2, 1, 3])
        self.assertEqual(first(text, [0, 1, 3]), [0, 0, 2, 0, 1, 1, 3])


class Refusals(SetRefusals, unittest.TestCase):
    call = staticmethod(first)

    def test_ahead_of_locked(self):
        for numbers in ([], [0, 0], [1, 1], [1, 0], [0, 1, 1], [0, 1, 2], [2], [LARGEST], [0, LARGEST]):
            self.assertEqual(first(lines(*BOX), numbers), [-8], numbers)

    def test_the_32nd_put_alone(self):
        self.assertEqual(first(self.FULL, [31]), [-3])
        self.assertEqual(first(self.FULL, [30, 31]), [0, 0, 1, 31, 1, 30])


class AgainstTheSlowWay(unittest.TestCase):
    def check(self, dice, works, turns):
        told = set()
        for rows in works:
            text = lines(*rows)
            count = sum(row.startswith("put ") for row in rows)
            for turn in range(turns):
                numbers = sorted(dice.sample(range(count), dice.randint(1, count))) if turn else list(range(count))
                answer = first(text, numbers)
                told.add(tuple(answer[:3]) + (len(numbers),))
                self.assertEqual(answer, slow_first(text, numbers), (rows, numbers))
        return told

    def test_random_works(self):
        told = self.check(random.Random(32), random_works(33, 60, most_side=3, spread=3, most_puts=14), 5)
        self.assertTrue({(0, 0, 1, 3), (0, 0, 2, 3), (0, 0, 3, 5), (0, 0, 3, 6)} <= told, told)

    def test_random_tangles(self):
        told = self.check(random.Random(34), random_tangles(35, 150, most_puts=6), 3)
        wanted = {(-3, 1), (-3, 2), (-3, 3), (-3, 4), (-3, 5), (0, 0, 1, 2), (0, 2, 1, 3), (0, 4, 1, 3), (0, 2, 2, 3)}
        self.assertTrue(wanted <= told, wanted - told)

    def test_random_lists(self):
        dice = random.Random(36)
        told = set()
        for rows in random_works(37, 30, most_side=3, spread=4, most_puts=6):
            text = lines(*rows)
            for turn in range(20):
                numbers = [dice.randrange(6) for count in range(dice.randrange(4))]
                answer = first(text, numbers)
                told.add(answer[0])
                self.assertEqual(answer, slow_first(text, numbers), (rows, numbers))
        self.assertEqual(told, {0, -3, -8})


if __name__ == "__main__":
    unittest.main()

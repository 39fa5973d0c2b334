"""apart: whether a set comes apart, and the refusals in their order."""

import random
import unittest

from holding.puts import apart
from tests.helper import (
    BLOCKS, BOX, DRAWER, KNOT, NO_SETS, ROW, UNIT, SetRefusals, chain, lines, put, random_tangles, random_works,
    slow_apart, subsets,
)


def some_sets(count):
    """Every set of so many puts, but the empty one, as lists."""
    return [sorted(some) for some in subsets(range(count))[1:]]


class Apart(unittest.TestCase):
    def test_one_put(self):
        for i in range(4):
            self.assertEqual(apart(ROW, [i]), [1])
        self.assertEqual(apart(lines(UNIT, put(0, 0, 0)), [0]), [1])
        for i in range(2):
            self.assertEqual(apart(lines(*BOX), [i]), [1])

    def test_a_row(self):
        for some in some_sets(4):
            self.assertEqual(apart(ROW, some), [1], some)

    def test_two_puts(self):
        for place in ((6, 5, 5), (4, 5, 5), (5, 6, 5), (5, 4, 5), (5, 5, 6), (5, 5, 4), (48, 48, 48)):
            self.assertEqual(apart(lines(UNIT, put(5, 5, 5), put(*place)), [0, 1]), [1], place)

    def test_one_way_out(self):
        """A rod in a hole that is open one way alone."""
        for cut, rod in (("cut 1 1 1 2 1 1", "put c ub 6 6 6"), ("cut 0 1 1 2 1 1", "put c ub 5 6 6"),
                         ("cut 1 1 1 1 2 1", "put c ru 6 6 6"), ("cut 1 0 1 1 2 1", "put c ru 6 5 6"),
                         ("cut 1 1 1 1 1 2", "put c rb 6 6 6"), ("cut 1 1 0 1 1 2", "put c rb 6 6 5")):
            text = lines("part a 3 3 3 x", cut, "part c 1 1 2 z", "put a rb 5 5 5", rod)
            self.assertEqual(apart(text, [0, 1]), [1], cut)

    def test_together_at_first(self):
        for some in some_sets(3):
            self.assertEqual(apart(lines(*DRAWER), some), [1], some)

    def test_within_one_another_but_open(self):
        """Cups of which each stands in the one before; they come out of one another upwards alone."""
        rows = []
        for number, side in enumerate((9, 7, 5, 3)):
            rows.append("part c%d %d %d %d x" % (number, side, side, side))
            rows.append("cut 1 1 1 %d %d %d" % (side - 2, side - 2, side - 1))
        rows += ["put c%d rb %d %d %d" % (number, 5 + number, 5 + number, 5 + number) for number in range(4)]
        for some in some_sets(4):
            self.assertEqual(apart(lines(*rows), some), [1], some)

    def test_a_part_cut_away_whole(self):
        text = lines("part e 3 3 3 x", "cut 0 0 0 3 3 3", *BOX[:3], "put e rb 6 6 6", "put e rb 6 6 6", *BOX[3:])
        for some in ([0], [0, 1], [0, 2], [1, 3], [0, 1, 2]):
            self.assertEqual(apart(text, some), [1], some)
        for some in ([2, 3], [0, 2, 3], [0, 1, 2, 3]):
            self.assertEqual(apart(text, some), [0], some)

    def test_thirty_two_puts(self):
        everything = list(range(32))
        text = lines(UNIT, *[put(number, 0, 0) for number in range(32)])
        for some in (everything, everything[::2], everything[:31], everything[1:], [0, 31]):
            self.assertEqual(apart(text, some), [1])
        self.assertEqual(apart(lines(*BLOCKS), everything), [1])


class Together(unittest.TestCase):
    def test_locked_at_once(self):
        self.assertEqual(apart(lines(*BOX), [0, 1]), [0])
        for count in (2, 3, 17):
            self.assertEqual(apart(lines(*chain(count)), list(range(count))), [0], count)

    def test_three_that_are_not_locked_by_twos(self):
        self.assertEqual(apart(lines(*KNOT), [0, 1, 2]), [0])
        for some in ([0, 1], [0, 2], [1, 2]):
            self.assertEqual(apart(lines(*KNOT), some), [1])

    def test_locked_after_some_moves(self):
        text = lines(*BOX, put(30, 30, 30), put(7, 7, 30))
        for some in some_sets(4):
            self.assertEqual(apart(text, some), [0 if {0, 1} <= set(some) else 1], some)

    def test_locked_in_what_comes_along(self):
        """What comes along first is locked, what is left comes apart."""
        text = lines(UNIT, *BOX[:2], put(0, 5, 5), put(0, 15, 15), "put a rb 30 5 5", put(32, 7, 7))
        self.assertEqual(apart(text, [0, 1, 2, 3]), [0])
        self.assertEqual(apart(text, [0, 1, 2]), [1])

    def test_locked_in_what_is_left(self):
        """What comes along first comes apart, what is left is locked."""
        text = lines(UNIT, *BOX[:2], put(30, 5, 5), put(20, 5, 5), "put a rb 3 5 5", put(5, 7, 7))
        self.assertEqual(apart(text, [0, 1, 2, 3]), [0])
        self.assertEqual(apart(text, [0, 1, 3]), [1])

    def test_a_chain_without_a_link(self):
        text = lines(*chain(6))
        for some in some_sets(6):
            linked = any(link + 1 in some for link in some)
            self.assertEqual(apart(text, some), [0 if linked else 1], some)

    def test_puts_outside_of_the_set_do_not_hinder(self):
        text = lines(*BOX[:3], "put a rb 5 5 5", put(6, 7, 7), put(8, 7, 7))
        self.assertEqual(apart(text, [1, 2]), [1])
        self.assertEqual(apart(text, [0, 1, 2]), [0])

    def test_thirty_two_puts(self):
        """Two chains of 16 links; without every other link they come apart."""
        text = lines(*chain(16), *chain(16, 20)[2:])
        everything = list(range(32))
        self.assertEqual(apart(text, everything), [0])
        self.assertEqual(apart(text, everything[::2]), [1])
        self.assertEqual(apart(text, everything[::2] + [31]), [0])
        self.assertEqual(apart(text, everything[1::2]), [1])
        self.assertEqual(apart(text, [15, 16]), [1])


class Refusals(SetRefusals, unittest.TestCase):
    call = staticmethod(apart)

    def test_no_sets_of_a_locked_work(self):
        for numbers in NO_SETS:
            self.assertEqual(apart(lines(*chain(4)), numbers), [-8], numbers)

    def test_the_32nd_put_alone(self):
        self.assertEqual(apart(self.FULL, [31]), [1])


class AgainstTheSlowWay(unittest.TestCase):
    def check(self, dice, works, turns):
        told = set()
        for rows in works:
            text = lines(*rows)
            count = sum(row.startswith("put ") for row in rows)
            for turn in range(turns):
                numbers = sorted(dice.sample(range(count), dice.randint(1, count))) if turn else list(range(count))
                answer = apart(text, numbers)
                told.add((answer[0], len(numbers)))
                self.assertEqual(answer, slow_apart(text, numbers), (rows, numbers))
        return told

    def test_random_works(self):
        told = self.check(random.Random(38), random_works(39, 40, most_side=3, spread=3, most_puts=10), 5)
        self.assertTrue({(1, 1), (1, 2), (1, 3), (1, 4), (1, 5)} <= told, told)

    def test_random_tangles(self):
        told = self.check(random.Random(40), random_tangles(41, 120, most_puts=6), 4)
        wanted = {(came, count) for came in (0, 1) for count in range(2, 6)}
        self.assertTrue(wanted <= told, wanted - told)

    def test_random_lists(self):
        dice = random.Random(42)
        told = set()
        for rows in random_tangles(43, 30):
            text = lines(*rows)
            for turn in range(20):
                numbers = [dice.randrange(6) for count in range(dice.randrange(4))]
                answer = apart(text, numbers)
                told.add(answer[0])
                self.assertEqual(answer, slow_apart(text, numbers), (rows, numbers))
        self.assertEqual(told, {0, 1, -8})


if __name__ == "__main__":
    unittest.main()

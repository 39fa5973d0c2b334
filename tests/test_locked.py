"""locked: the sets that are left locked in the end, and the refusals."""

import unittest

from holding.puts import apart, first, locked
from tests.helper import (
    BLOCKS, BOX, BOXES, DRAWER, KNOT, REFUSED, ROW, UNIT, chain, lines, put, random_tangles, random_works, sets_told,
    slow_locked,
)


class NoneLocked(unittest.TestCase):
    def test_no_puts_at_all(self):
        for text in ([], lines(UNIT), lines(*BOX[:3])):
            self.assertEqual(locked(text), [0])

    def test_one_put(self):
        """It is free, not locked."""
        self.assertEqual(locked(lines(UNIT, put(0, 0, 0))), [0])
        self.assertEqual(locked(lines(*BOX[:2], "put a rb 48 48 48")), [0])

    def test_works_that_come_apart_whole(self):
        self.assertEqual(locked(ROW), [0])
        self.assertEqual(locked(lines(*DRAWER)), [0])
        self.assertEqual(locked(lines(UNIT, put(5, 5, 5), put(6, 5, 5))), [0])

    def test_thirty_two_puts(self):
        self.assertEqual(locked(lines(UNIT, *[put(number, 0, 0) for number in range(32)])), [0])
        self.assertEqual(locked(lines(*BLOCKS)), [0])


class SomeLocked(unittest.TestCase):
    def test_at_once(self):
        self.assertEqual(locked(lines(*BOX)), [1, 2, 0, 1])
        self.assertEqual(locked(lines(*KNOT)), [1, 3, 0, 1, 2])
        for count in (2, 3, 17):
            self.assertEqual(locked(lines(*chain(count))), [1, count] + list(range(count)), count)

    def test_after_some_moves(self):
        self.assertEqual(locked(lines(*BOX, put(30, 30, 30), put(7, 7, 30))), [1, 2, 0, 1])
        text = lines(*BOX[:3], put(30, 7, 7), "put a rb 5 5 5", put(0, 7, 7), put(7, 7, 7))
        self.assertEqual(locked(text), [1, 2, 1, 3])

    def test_free_puts_are_not_told(self):
        """Free ones ahead of the locked set, between two of them, and behind."""
        text = lines(*BOX[:3], put(48, 7, 7), "put a rb 40 5 5", put(42, 7, 7), put(39, 7, 7), "put a rb 30 5 5",
                     put(32, 7, 7), put(7, 7, 7))
        self.assertEqual(locked(text), [2, 2, 1, 2, 2, 4, 5])

    def test_the_rows_order(self):
        """Drawn to the right the farther box comes along first, whichever numbers its puts have."""
        near, far = ["put a rb 5 5 5", put(7, 7, 7)], ["put a rb 20 5 5", put(22, 7, 7)]
        self.assertEqual(locked(lines(*BOX[:3], *near, *far)), [2, 2, 2, 3, 2, 0, 1])
        self.assertEqual(locked(lines(*BOX[:3], *far, *near)), [2, 2, 0, 1, 2, 2, 3])
        self.assertEqual(locked(lines(*BOX[:3], near[0], far[0], near[1], far[1])), [2, 2, 1, 3, 2, 0, 2])

    def test_several_of_several_sizes(self):
        text = lines(*BOX[:3], *chain(3, 30)[:2], "put a rb 5 5 5", *chain(3, 30)[2:], put(7, 7, 7), put(0, 0, 0))
        self.assertEqual(locked(text), [2, 2, 0, 4, 3, 1, 2, 3])

    def test_thirty_two_puts(self):
        self.assertEqual(locked(lines(*chain(16), *chain(16, 20)[2:])),
                         [2, 16] + list(range(16)) + [16] + list(range(16, 32)))

    def test_thirty_two_puts_that_are_locked_by_twos(self):
        """Four rows of four boxes: of each row the box farthest to the right comes first."""
        expected = [16]
        for k in range(0, 32, 8):
            for j in (6, 4, 2, 0):
                expected += [2, k + j, k + j + 1]
        self.assertEqual(locked(lines(*BOXES)), expected)

    def test_the_same_as_first_and_apart(self):
        """Each set left is refused by first; none is left just if the whole comes apart."""
        for rows in random_tangles(54, 40):
            text = lines(*rows)
            left = sets_told(locked(text))
            for together in left:
                self.assertEqual(first(text, together), [-3])
                self.assertEqual(apart(text, together), [0])
            everything = list(range(sum(row.startswith("put ") for row in rows)))
            self.assertEqual(apart(text, everything), [0 if left else 1])


class Refusals(unittest.TestCase):
    def test_those_of_every_call(self):
        for text, refusal in REFUSED:
            self.assertEqual(locked(text), refusal)


class AgainstTheSlowWay(unittest.TestCase):
    def test_random_works(self):
        for rows in random_works(55, 40, most_side=3, spread=3, most_puts=12):
            self.assertEqual(locked(lines(*rows)), slow_locked(lines(*rows)), rows)

    def test_random_tangles(self):
        told = set()
        for rows in random_tangles(56, 150, most_puts=7):
            answer = locked(lines(*rows))
            told.add(tuple(answer[:2]))
            self.assertEqual(answer, slow_locked(lines(*rows)), rows)
        self.assertTrue({(0,), (1, 2), (1, 3), (1, 4), (1, 5)} <= told, told)


if __name__ == "__main__":
    unittest.main()

"""order: the moves that take a work apart, one after another, and the refusals."""

import unittest

from holding.puts import first, order
from tests.helper import (
    BLOCKS, BOX, BOXES, DRAWER, KNOT, REFUSED, ROW, UNIT, chain, lines, moves_told, put, random_tangles, random_works,
    slow_order,
)


def told(*moves):
    """The answer that tells these moves."""
    answer = [len(moves)]
    for way, some, rest in moves:
        answer += [way, len(some)] + some + [len(rest)] + rest
    return answer


class Orders(unittest.TestCase):
    def test_no_puts_at_all(self):
        for text in ([], lines(UNIT), lines(*BOX[:3])):
            self.assertEqual(order(text), [0])

    def test_one_put(self):
        self.assertEqual(order(lines(UNIT, put(0, 0, 0))), [0])
        self.assertEqual(order(lines(*BOX[:2], "put a rb 48 48 48")), [0])

    def test_two_puts(self):
        self.assertEqual(order(lines(UNIT, put(5, 5, 5), put(6, 5, 5))), [1, 0, 1, 1, 1, 0])
        self.assertEqual(order(lines(UNIT, put(6, 5, 5), put(5, 5, 5))), [1, 0, 1, 0, 1, 1])
        self.assertEqual(order(lines(UNIT, put(5, 5, 5), put(5, 5, 6))), [1, 0, 1, 0, 1, 1])

    def test_a_row(self):
        self.assertEqual(order(ROW), [3, 0, 3, 1, 2, 3, 1, 0, 0, 2, 2, 3, 1, 1, 0, 1, 3, 1, 2])

    def test_what_comes_along_moves_ahead_of_what_is_left(self):
        text = lines(UNIT, put(0, 0, 0), put(5, 0, 0), put(0, 9, 0), put(5, 9, 0))
        self.assertEqual(order(text), told((0, [0, 1], [2, 3]), (0, [1], [0]), (0, [3], [2])))

    def test_the_row_goes_ahead_of_the_numbers(self):
        """What comes along first has the greater numbers."""
        text = lines(UNIT, "part c 1 3 1 x", "put c rb 0 0 0", "put c rb 1 0 0", "put c rb 9 2 0", put(9, 0, 0),
                     put(12, 4, 0))
        self.assertEqual(order(text), told((0, [1, 2, 3, 4], [0]), (0, [2, 4], [1, 3]), (0, [4], [2]), (0, [3], [1])))

    def test_each_moves_way(self):
        self.assertEqual(order(lines(*DRAWER)), told((0, [1, 2], [0]), (4, [1], [2])))
        hole = [UNIT, "part a 3 3 3 x", "cut 1 1 1 1 1 2", "part c 1 1 2 z", "put a rb 5 5 5", "put c rb 6 6 6"]
        self.assertEqual(order(lines(*hole)), told((4, [1], [0])))
        self.assertEqual(order(lines(*hole, put(6, 6, 20))), told((0, [0, 1], [2]), (4, [1], [0])))

    def test_locked_works(self):
        for rows in (BOX, KNOT, chain(2), chain(17)):
            self.assertEqual(order(lines(*rows)), [0])

    def test_locked_after_some_moves(self):
        text = lines(*BOX, put(30, 30, 30), put(7, 7, 30))
        self.assertEqual(order(text), told((0, [0, 1], [2, 3]), (0, [2], [3])))

    def test_locked_sets_are_passed_over(self):
        """The first in the row is locked, and what stands behind it goes on."""
        text = lines(*BOX[:3], put(7, 7, 0), "put a rb 30 5 5", put(32, 7, 7), put(7, 7, 2), "put a rb 20 5 5",
                     put(22, 7, 7))
        expected = told((0, [0], [1, 2, 3, 4, 5]), (0, [1, 2], [3, 4, 5]), (0, [3], [4, 5]))
        self.assertEqual(order(text), expected)

    def test_a_part_cut_away_whole(self):
        text = lines("part e 3 3 3 x", "cut 0 0 0 3 3 3", *BOX[:3], *BOX[3:], "put e rb 6 6 6", "put e rb 6 6 6")
        self.assertEqual(order(text), told((0, [0, 1], [2, 3]), (0, [2], [3])))

    def test_thirty_two_puts(self):
        text = lines(UNIT, *[put(number, 0, 0) for number in range(32)])
        self.assertEqual(order(text), told(*[(0, list(range(k + 1, 32)), [k]) for k in range(31)]))
        text = lines(UNIT, *[put(number, 0, 0) for number in range(31, -1, -1)])
        self.assertEqual(order(text), told(*[(0, [k], list(range(k + 1, 32))) for k in range(31)]))

    def test_thirty_two_large_puts(self):
        """Eight rows of four blocks."""
        moves = []
        for k in range(0, 32, 4):
            if k < 28:
                moves.append((0, list(range(k, k + 4)), list(range(k + 4, 32))))
            moves += [(0, [k + 1, k + 2, k + 3], [k]), (0, [k + 2, k + 3], [k + 1]), (0, [k + 3], [k + 2])]
        self.assertEqual(order(lines(*BLOCKS)), told(*moves))

    def test_thirty_two_puts_that_are_locked_by_twos(self):
        """Four rows of four boxes."""
        moves = []
        for k in range(0, 32, 8):
            if k < 24:
                moves.append((0, list(range(k, k + 8)), list(range(k + 8, 32))))
            moves += [(0, list(range(j + 2, k + 8)), [j, j + 1]) for j in (k, k + 2, k + 4)]
        self.assertEqual(order(lines(*BOXES)), told(*moves))

    def test_the_same_as_first(self):
        """Each move is the one that first tells of its set."""
        for rows in random_tangles(51, 25):
            text = lines(*rows)
            for way, some, rest in moves_told(order(text)):
                self.assertEqual(told((way, some, rest))[1:], first(text, sorted(some + rest))[1:])


class Refusals(unittest.TestCase):
    def test_those_of_every_call(self):
        for text, refusal in REFUSED:
            self.assertEqual(order(text), refusal)


class AgainstTheSlowWay(unittest.TestCase):
    def test_random_works(self):
        counts = set()
        for rows in random_works(52, 60, most_side=3, spread=3, most_puts=12):
            answer = order(lines(*rows))
            counts.add(answer[0])
            self.assertEqual(answer, slow_order(lines(*rows)), rows)
        self.assertTrue({0, 1, 2, 3, 4, 5, 6} <= counts, counts)

    def test_random_tangles(self):
        counts = set()
        for rows in random_tangles(53, 150, most_puts=7):
            answer = order(lines(*rows))
            counts.add(answer[0])
            self.assertEqual(answer, slow_order(lines(*rows)), rows)
        self.assertTrue({0, 1, 2, 3, 4, 5} <= counts, counts)


if __name__ == "__main__":
    unittest.main()

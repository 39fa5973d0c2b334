"""judge: how a line is formed, the fault and why, the bounds, overlap."""

import random
import unittest

from holding.puts import judge
from tests.helper import TURNS, as_text, block, lines, put_set, random_rows, slow_judge

PART = "part a 4 5 6 x"
CUT = "cut 0 0 0 1 1 1"
PUT = "put a rb 0 0 0"
MANY = [PART] + ["part p%d 1 1 1 z" % number for number in range(31)]
CUTS = [PART] + [CUT] * 64
PUTS = [PART] + ["put a rb %d %d 0" % (4 * (number % 8), 5 * (number // 8)) for number in range(32)]


class Judging(unittest.TestCase):
    def right(self, *rows):
        self.assertEqual(judge(lines(*rows)), [0], rows)

    def fault(self, line, why, *rows):
        self.assertEqual(judge(lines(*rows)), [-6, line, why], rows)


class RightTexts(Judging):
    def test_a_work(self):
        self.right(PART, CUT, "part b 1 1 1 y", "put a rb 0 0 0", "put b ul 4 0 0", "put a df 20 20 20")

    def test_no_bytes(self):
        self.assertEqual(judge([]), [0])

    def test_parts_without_puts(self):
        self.right(PART)
        self.right(PART, CUT, "part b 16 16 16 z", "cut 0 0 0 16 16 16")

    def test_each_grain(self):
        for grain in "xyz":
            self.right("part a 1 2 3 " + grain)

    def test_names(self):
        for name in ("a", "z", "0", "9", "part", "cut", "put", "007", "abcdefghijkl", "012345678901"):
            self.right("part %s 1 1 1 x" % name, "put %s rb 0 0 0" % name)

    def test_the_name_of_a_put_is_any_part_told(self):
        self.right(PART, "part b 1 1 1 x", "part c 1 1 1 x", "put b rb 0 0 0", "put a rb 1 0 0", "put c rb 0 1 0")

    def test_all_turns(self):
        for turn in TURNS:
            self.right(PART, "put a %s 3 2 1" % turn)

    def test_cuts_that_cut_nothing(self):
        self.right(PART, CUT, CUT, "cut 0 0 0 4 5 6", CUT)


class NotFormed(Judging):
    """Reason 1."""

    def each(self, rows, head):
        for row in rows:
            with self.subTest(row=row):
                self.fault(len(head), 1, *head, row)

    def test_parts(self):
        self.each([
            "part", "part ", "part a", "part a 1 1 1", "part a 1 1 1 ", "part a 1 1 x", "part a 1 1 1 1 x",
            "part a 1 1 1 x x", "part a 1 1 1 w", "part a 1 1 1 X", "part a 1 1 1 xy", "part a 1 1 1 1",
            "part  1 1 1 x", "part 1 1 1 x", "Part a 1 1 1 x", "PART a 1 1 1 x", "parts a 1 1 1 x", "par a 1 1 1 x",
            "part a 1 b 1 x", "part a -1 1 1 x", "part a +1 1 1 x", "part a 1. 1 1 x", "a 1 1 1 x",
        ], [])

    def test_cuts(self):
        self.each([
            "cut", "cut 0", "cut 0 0 0 1 1", "cut 0 0 0 1 1 1 1", "cut a 0 0 1 1 1", "cut 0 0 0 1 1 x",
            "cut -1 0 0 1 1 1", "cut 0 0 0 -1 1 1", "Cut 0 0 0 1 1 1", "cuts 0 0 0 1 1 1", "0 0 0 1 1 1",
            "cut a 0 0 0 1 1 1",
        ], [PART])

    def test_puts(self):
        self.each([
            "put", "put a", "put a rb", "put a rb 0 0", "put a rb 0 0 0 0", "put rb 0 0 0", "put a 0 0 0",
            "put a  0 0 0", "put a r 0 0 0", "put a rbu 0 0 0", "put a rx 0 0 0", "put a xb 0 0 0", "put a RB 0 0 0",
            "put a r b 0 0 0", "put a 02 0 0 0", "put A rb 0 0 0", "put a rb 0 0 x", "put a rb -1 0 0",
            "puts a rb 0 0 0", "Put a rb 0 0 0",
        ], [PART])

    def test_ways_that_are_not_across(self):
        for first in "rlbfud":
            for second in "rlbfud":
                turn = first + second
                if turn in TURNS:
                    self.right(PART, "put a %s 0 0 0" % turn)
                else:
                    self.fault(1, 1, PART, "put a %s 0 0 0" % turn)

    def test_blanks(self):
        for head, row in (([], PART), ([PART], CUT), ([PART], PUT)):
            self.each([" " + row, row + " ", row.replace(" ", "  ", 1), "  ".join(row.rsplit(" ", 1)),
                       row.replace(" ", "\t", 1), row + "\r", row.replace(" ", "", 1)], head)

    def test_empty_lines(self):
        self.each(["", " ", "  "], [])
        self.each([""], [PART])
        self.each([""], [PART, CUT])
        self.each([""], [PART, PUT])
        self.fault(0, 1, "", PART)

    def test_unknown_lines(self):
        self.each(["x", "work", "part:", "# a", "0"], [PART])

    def test_a_0_in_front(self):
        self.each(["part a 01 1 1 x", "part a 1 00 1 x", "part a 1 1 016 x"], [])
        self.each(["cut 00 0 0 1 1 1", "cut 0 01 0 1 1 1", "cut 0 0 000 1 1 1", "cut 0 0 0 01 1 1",
                   "cut 0 0 0 1 1 01"], [PART])
        self.each(["put a rb 00 0 0", "put a rb 0 01 0", "put a rb 0 0 048"], [PART])

    def test_names(self):
        for name in ("abcdefghijklm", "0123456789012", "A", "aB", "a_b", "a-b", "a.b", "a?", "?", "\xe4", "\xb2", "`",
                     "{", "/", ":"):
            self.fault(0, 1, "part %s 1 1 1 x" % name)
            self.fault(1, 1, PART, "put %s rb 0 0 0" % name)

    def test_every_byte_within_a_name(self):
        for byte in range(256):
            text = as_text("part a") + [byte] + as_text("b 1 1 1 x\n")
            if byte in b"abcdefghijklmnopqrstuvwxyz0123456789":
                self.assertEqual(judge(text), [0], byte)
            else:
                self.assertEqual(judge(text), [-6, 0, 1], byte)

    def test_every_byte_as_a_digit(self):
        for byte in range(256):
            text = as_text("part a 1") + [byte] + as_text(" 1 1 x\n")
            expected = [0] if byte in b"0123456" else [-6, 0, 1]
            self.assertEqual(judge(text), expected, byte)

    def test_every_byte_alone(self):
        for byte in range(256):
            self.assertEqual(judge([byte]), [-6, 0, 1], byte)

    def test_sizes(self):
        for place in range(3):
            for number, right in ((0, False), (1, True), (16, True), (17, False), (10 ** 30, False)):
                numbers = ["2", "2", "2"]
                numbers[place] = str(number)
                row = "part a %s x" % " ".join(numbers)
                if right:
                    self.right(row)
                else:
                    self.fault(0, 1, row)

    def test_lengths_of_cuts(self):
        for place in range(3):
            for number, right in ((0, False), (1, True), (16, True), (17, False), (10 ** 30, False)):
                numbers = ["2", "2", "2"]
                numbers[place] = str(number)
                rows = ["part a 16 16 16 x", "cut 0 0 0 " + " ".join(numbers)]
                if right:
                    self.right(*rows)
                else:
                    self.fault(1, 1, *rows)

    def test_corners_of_puts(self):
        for place in range(3):
            for number, right in ((0, True), (48, True), (49, False), (64, False), (10 ** 30, False)):
                numbers = ["1", "1", "1"]
                numbers[place] = str(number)
                rows = ["part a 16 16 16 x", "put a rb " + " ".join(numbers)]
                if right:
                    self.right(*rows)
                else:
                    self.fault(1, 1, *rows)

    def test_very_long_numbers(self):
        for digits in (5, 9, 10, 19, 20, 100, 4299, 4300, 4301, 20000):
            number = "1" + "0" * (digits - 1)
            self.fault(0, 1, "part a %s 1 1 x" % number)
            self.fault(1, 1, PART, "cut 0 0 0 1 1 " + number)
            self.fault(1, 1, PART, "put a rb 0 %s 0" % number)
            self.fault(1, 1, PART, "cut 0%s 0 0 1 1 1" % number)
            for place in range(3):
                numbers = ["0", "0", "0"]
                numbers[place] = number
                self.fault(1, 4, PART, "cut %s 1 1 1" % " ".join(numbers))

    def test_without_the_line_feed(self):
        for rows in ([PART], [PART, CUT], [PART, CUT, PUT], [PART, "x"]):
            self.assertEqual(judge(lines(*rows)[:-1]), [-6, len(rows) - 1, 1])
        self.assertEqual(judge(lines(PART) + [32]), [-6, 1, 1])

    def test_without_the_line_feed_comes_before_all_else(self):
        for rows in ([CUT], [PUT], [PART, PART], [PART, PUT, PART], [PART, "cut 9 0 0 1 1 1"], MANY + ["part q 1 1 1 x"],
                     CUTS + [CUT], PUTS + [PUT]):
            self.assertEqual(judge(lines(*rows)[:-1]), [-6, len(rows) - 1, 1])


class CantStand(Judging):
    """Reason 3."""

    def test_a_cut_before_any_part(self):
        self.fault(0, 3, CUT)
        self.fault(0, 3, "cut 99 99 99 1 1 1", PART)

    def test_a_put_before_any_part(self):
        self.fault(0, 3, PUT)
        self.fault(0, 3, PUT, PART)

    def test_a_cut_behind_a_put(self):
        self.fault(2, 3, PART, PUT, CUT)

    def test_a_part_behind_a_put(self):
        self.fault(2, 3, PART, PUT, "part b 1 1 1 x")

    def test_1_comes_before_3(self):
        self.fault(0, 1, "cut 0 0 0 0 1 1")
        self.fault(0, 1, "put a rb 0 0 49")
        self.fault(0, 1, "put a rr 0 0 0")
        self.fault(2, 1, PART, PUT, "part b 17 1 1 x")
        self.fault(2, 1, PART, PUT, "cut 0 0 0 1 1 17")

    def test_3_comes_before_4_and_2(self):
        self.fault(2, 3, PART, PUT, PART)
        self.fault(2, 3, PART, PUT, "cut 9 0 0 1 1 1")
        self.fault(33, 3, *MANY, PUT, "part q 1 1 1 x")
        self.fault(33, 3, *MANY, PUT, PART)
        self.fault(66, 3, *CUTS, PUT, CUT)


class Clashes(Judging):
    """Reason 4."""

    def test_a_name_told_already(self):
        self.fault(1, 4, PART, "part a 1 1 1 z")
        self.fault(3, 4, PART, CUT, "part b 1 1 1 x", "part a 1 1 1 z")

    def test_a_name_that_is_none(self):
        self.fault(1, 4, PART, "put b rb 0 0 0")
        self.fault(1, 4, PART, "put aa rb 0 0 0")
        self.fault(2, 4, PART, PUT, "put 4 rb 0 0 0")

    def test_a_cut_beyond_its_block(self):
        for row in ("cut 0 0 0 5 1 1", "cut 0 0 0 1 6 1", "cut 0 0 0 1 1 7", "cut 3 0 0 2 1 1", "cut 0 4 0 1 2 1",
                    "cut 0 0 5 1 1 2", "cut 4 0 0 1 1 1", "cut 0 5 0 1 1 1", "cut 0 0 6 1 1 1", "cut 16 16 16 16 16 16",
                    "cut 9999 0 0 1 1 1", "cut 10000 0 0 1 1 1", "cut 4294967296 0 0 1 1 1"):
            self.fault(1, 4, PART, row)
        for row in ("cut 0 0 0 4 5 6", "cut 3 0 0 1 1 1", "cut 0 4 0 1 1 1", "cut 0 0 5 1 1 1", "cut 3 4 5 1 1 1",
                    "cut 1 2 3 3 3 3"):
            self.right(PART, row)

    def test_the_block_is_that_of_the_last_part(self):
        self.right("part b 1 1 1 x", PART, "cut 3 0 0 1 1 1")
        self.fault(2, 4, PART, "part b 1 1 1 x", "cut 3 0 0 1 1 1")

    def test_1_comes_before_4(self):
        self.fault(1, 1, PART, "part a 0 1 1 x")
        self.fault(1, 1, PART, "put b rb 49 0 0")
        self.fault(1, 1, PART, "put b rl 0 0 0")
        self.fault(1, 1, PART, "cut 9 0 0 1 1 0")

    def test_4_comes_before_2(self):
        self.fault(32, 4, *MANY, PART)
        self.fault(65, 4, *CUTS, "cut 4 0 0 1 1 1")
        self.fault(33, 4, *PUTS, "put b rb 0 0 0")


class TooMuch(Judging):
    """Reason 2."""

    def test_parts(self):
        self.right(*MANY)
        self.fault(32, 2, *MANY, "part q 1 1 1 x")

    def test_cuts(self):
        self.right(*CUTS)
        self.fault(65, 2, *CUTS, CUT)

    def test_cuts_are_counted_part_by_part(self):
        more = ["part b 4 4 4 x"] + [CUT] * 64
        self.right(*CUTS, *more)
        self.fault(130, 2, *CUTS, *more, CUT)

    def test_puts(self):
        self.right(*PUTS)
        self.fault(33, 2, *PUTS, "put a rb 40 40 40")

    def test_puts_are_counted_over_all_parts(self):
        rows = [PART, "part b 1 1 1 x"] + PUTS[1:17] + [row.replace(" a ", " b ") for row in PUTS[17:]]
        self.right(*rows)
        self.fault(34, 2, *rows, "put b rb 40 40 40")

    def test_1_comes_before_2(self):
        self.fault(32, 1, *MANY, "part q 1 1 0 x")
        self.fault(65, 1, *CUTS, "cut 0 0 0 1 1 0")
        self.fault(33, 1, *PUTS, "put a rb 0 0 49")

    def test_comes_before_overlap(self):
        self.fault(33, 2, *PUTS, PUTS[1])


class FirstFault(Judging):
    def test_behind_right_lines(self):
        self.fault(5, 4, PART, CUT, "part b 1 1 1 x", PUT, "put b rb 4 0 0", "put c rb 9 9 9")

    def test_the_first_of_two(self):
        self.fault(1, 4, PART, PART, "x")
        self.fault(1, 1, PART, "x", PART)
        self.fault(0, 3, CUT, "", PART)
        self.fault(2, 3, PART, PUT, CUT, "y")

    def test_comes_before_overlap(self):
        self.fault(3, 1, PART, PUT, PUT, "x")


class Size(Judging):
    def of_length(self, length):
        """A text of that many bytes, whose one fault is that its cut lies far beyond its block."""
        head = as_text(PART + "\ncut ")
        tail = as_text(" 0 0 1 1 1\n")
        return head + [57] * (length - len(head) - len(tail)) + tail

    def test_65536_bytes(self):
        text = self.of_length(65536)
        self.assertEqual(len(text), 65536)
        self.assertEqual(judge(text), [-6, 1, 4])

    def test_65537_bytes(self):
        self.assertEqual(judge(self.of_length(65537)), [-2])
        self.assertEqual(judge(self.of_length(65600)), [-2])

    def test_one_line_or_line_feeds_alone(self):
        self.assertEqual(judge([97] * 65536), [-6, 0, 1])
        self.assertEqual(judge([97] * 65537), [-2])
        self.assertEqual(judge([10] * 65536), [-6, 0, 1])
        self.assertEqual(judge([10] * 65537), [-2])

    def test_the_longest_right_text(self):
        rows = []
        for number in range(32):
            rows.append("part abcdefghij%02d 16 16 16 x" % number)
            rows.extend(["cut 10 10 10 6 6 6"] * 64)
        rows += ["put abcdefghij%02d rb %d %d %d" % (number, 16 * (number % 4), 16 * (number // 4 % 4), 16 * (number // 16))
                 for number in range(32)]
        self.right(*rows)


class Overlap(Judging):
    def overlap(self, i, j, *rows):
        self.assertEqual(judge(lines(*rows)), [-9, i, j], rows)

    def test_two_puts(self):
        self.overlap(0, 1, PART, PUT, PUT)
        self.overlap(0, 1, PART, PUT, "put a rb 3 4 5")
        self.overlap(0, 1, PART, "put a rb 3 4 5", PUT)

    def test_side_by_side_is_no_overlap(self):
        self.right(PART, PUT, "put a rb 4 0 0", "put a rb 0 5 0", "put a rb 0 0 6")

    def test_at_the_grid_s_end(self):
        self.overlap(0, 1, "part a 16 16 16 x", "part b 1 1 1 x", "put a rb 48 48 48", "put b rb 48 48 48")
        self.right("part a 16 1 1 x", "put a rb 48 0 0", "put a rb 0 1 0")
        self.right("part a 1 16 1 x", "put a rb 0 48 0", "put a rb 0 0 1")

    def test_the_first_pair(self):
        unit = "part b 1 1 1 x"
        self.overlap(0, 3, unit, "put b rb 0 0 0", "put b rb 1 0 0", "put b rb 1 0 0", "put b rb 0 0 0")
        self.overlap(1, 2, unit, "put b rb 9 0 0", "put b rb 1 0 0", "put b rb 1 0 0", "put b rb 1 0 0")
        self.overlap(0, 2, PART, unit, PUT, "put b rb 9 0 0", "put b rb 0 0 0", "put b rb 1 0 0", "put b rb 9 0 0")
        self.overlap(1, 4, unit, "put b rb 9 0 0", "put b rb 1 0 0", "put b rb 2 0 0", "put b rb 2 0 0",
                     "put b rb 1 0 0")

    def test_one_put_meets_several(self):
        self.overlap(0, 2, "part c 3 1 1 x", "part b 1 1 1 x", "put b rb 2 0 0", "put b rb 0 0 0", "put c rb 0 0 0")

    def test_a_cut_takes_the_overlap_away(self):
        rows = ["part a 3 3 3 x", "part b 1 1 1 x", "put a rb 5 5 5", "put b rb 6 6 6"]
        self.overlap(0, 1, *rows)
        self.right(rows[0], "cut 1 1 1 1 1 1", *rows[1:])
        self.overlap(0, 1, rows[0], "cut 0 0 0 3 3 1", *rows[1:])

    def test_cuts_that_overlap_one_another(self):
        rows = ["part a 3 1 1 x", "cut 0 0 0 2 1 1", "cut 1 0 0 2 1 1", "part b 3 1 1 x", "put a rb 0 0 0",
                "put b rb 0 0 0"]
        self.right(*rows)

    def test_parts_cut_away_whole(self):
        self.right(PART, "cut 0 0 0 4 5 6", PUT, PUT, PUT)

    def test_only_its_own_cuts_count(self):
        self.overlap(1, 3, PART, "cut 0 0 0 4 5 6", "part b 4 5 6 x", PUT, "put b rb 0 0 0", PUT, "put b rb 3 0 0")


class Turns(unittest.TestCase):
    SIZES = (2, 3, 4)
    CUTS = [((1, 0, 0), (1, 2, 3)), ((0, 0, 3), (1, 1, 1)), ((0, 2, 0), (1, 1, 2))]

    def test_each_cell_of_each_turn(self):
        """A part of one cell is put round about: it overlaps just where the turned part has a cell."""
        rows = ["part a 2 3 4 x", "cut 1 0 0 1 2 3", "cut 0 0 3 1 1 1", "cut 0 2 0 1 1 2", "part b 1 1 1 x"]
        shapes = set()
        for turn in TURNS:
            cells = put_set(self.SIZES, self.CUTS, turn, (7, 8, 9))
            shapes.add(frozenset(cells))
            for place in block((6, 7, 8), (6, 6, 6)):
                answer = judge(lines(*rows, "put a %s 7 8 9" % turn, "put b rb %d %d %d" % place))
                self.assertEqual(answer, [-9, 0, 1] if place in cells else [0], (turn, place))
        self.assertEqual(len(shapes), 24)

    def test_the_document_s_example(self):
        """`lb`: x becomes w - 1 - x, z becomes h - 1 - z."""
        head = ["part a 2 1 3 x", "cut 0 0 0 1 1 3", "cut 1 0 1 1 1 2", "part b 1 1 1 x"]
        self.assertEqual(judge(lines(*head, "put a lb 5 5 5", "put b rb 5 5 7")), [-9, 0, 1])
        self.assertEqual(judge(lines(*head, "put a rb 5 5 5", "put b rb 6 5 5")), [-9, 0, 1])
        self.assertEqual(judge(lines(*head, "put a lb 5 5 5", "put b rb 6 5 5", "put b rb 5 5 5")), [0])


class AgainstTheSlowWay(unittest.TestCase):
    def test_right_rows(self):
        dice = random.Random(1)
        told = set()
        for count in range(300):
            text = lines(*random_rows(dice, spread=6))
            self.assertEqual(judge(text), slow_judge(text), bytes(text))
            told.add(judge(text)[0])
        self.assertEqual(told, {0, -9})

    def test_spoilt_bytes(self):
        dice = random.Random(2)
        for count in range(1500):
            text = lines(*random_rows(dice, spread=20))
            for change in range(dice.randint(1, 2)):
                place = dice.randrange(len(text))
                byte = dice.choice(as_text("\n 0123456789abdflprtuxyz?\x00\xff"))
                text[place:place + dice.randint(0, 1)] = [byte][:dice.randint(0, 1)]
            self.assertEqual(judge(text), slow_judge(text), bytes(text))

    def test_shuffled_rows(self):
        dice = random.Random(3)
        for count in range(600):
            rows = random_rows(dice, spread=20)
            for change in range(dice.randint(1, 3)):
                rows.insert(dice.randrange(len(rows) + 1), rows.pop(dice.randrange(len(rows))))
            text = lines(*rows)
            self.assertEqual(judge(text), slow_judge(text), bytes(text))


if __name__ == "__main__":
    unittest.main()

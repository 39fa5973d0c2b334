"""The promises that go across calls, and what the interface says of every call."""

import contextlib
import copy
import io
import random
import re
import sys
import unittest

from holding import puts
from tests.helper import (
    BOX, BOXES, DRAWER, KNOT, LARGEST, OPPOSITE, UNIT, Frozen, chain, lines, moves_told, put, random_rows,
    random_tangles, random_works, sets_told, subsets,
)

TEXTS = {
    "right": lines("part a 3 3 3 x", "cut 1 1 0 1 1 3", "part b 1 1 9 z", "put a rb 5 5 5", "put b rb 6 6 2"),
    "empty": [],
    "faulty": lines("part a 3 3 3 x", "cut 9 9 9 1 1 1"),
    "unended": lines("part a 3 3 3 x")[:-1],
    "overlapping": lines("part a 3 3 3 x", "put a rb 0 0 0", "put a rb 2 2 2"),
    "long": [97] * 65537,
    "locked": lines(*BOX),
}

HOLDING_WORKS = [
    ["part a 3 3 3 x", "cut 1 1 0 1 1 3", "part b 1 1 9 z", "put a rb 5 5 5", "put b rb 6 6 2", "put a rb 5 5 8"],
    ["part a 5 5 5 x", "cut 1 1 1 3 3 3", "part b 1 1 1 x", "put a rb 5 5 5", "put b rb 7 7 7", "put b rb 7 7 20"],
    ["part a 3 1 1 x", "cut 1 0 0 1 1 1", "part c 1 3 1 x", "put a rb 0 0 0", "put c rb 1 0 0", "put a rb 0 2 0"],
    ["part a 1 2 1 x"] + ["put a rb %d %d 7" % (step, step) for step in (3, 1, 4, 0, 2, 5)],
]


def put_count(rows):
    return sum(row.startswith("put ") for row in rows)


def all_answers(rows):
    """What every call answers of each put and way; of sets, those of all puts and of all but one."""
    text = lines(*rows)
    everything = list(range(put_count(rows)))
    told = []
    for i in everything:
        rest = [j for j in everything if j != i]
        for way in range(6):
            told.append(puts.stands(i, way, text))
            told.append(puts.along(i, way, text, everything))
            told.append(puts.off(way, text, [i], rest))
            told.append(puts.off(way, text, rest, [i]))
        told.append(puts.first(text, rest))
        told.append(puts.apart(text, rest))
    told.append(puts.first(text, everything))
    told.append(puts.apart(text, everything))
    told.extend([puts.judge(text), puts.order(text), puts.locked(text)])
    return told


def moved(rows, by):
    """The same work with each put's corner moved."""
    new = []
    for row in rows:
        words = row.split(" ")
        if words[0] == "put":
            words[3:] = [str(int(word) + step) for word, step in zip(words[3:], by)]
        new.append(" ".join(words))
    return new


def renamed(rows, names):
    return [re.sub(r"^(part|put) (\S+)", lambda found: found[1] + " " + names[found[2]], row) for row in rows]


class Promise1(unittest.TestCase):
    def test_the_opposite_way(self):
        seen = 0
        for rows in random_works(7, 60, most_puts=10):
            text = lines(*rows)
            count = put_count(rows)
            told = {(i, way): puts.stands(i, way, text)[1:] for i in range(count) for way in range(6)}
            for i in range(count):
                for j in range(count):
                    for way in range(6):
                        self.assertEqual(j in told[i, way], i in told[j, OPPOSITE[way]], (rows, i, j, way))
                        seen += j in told[i, way]
        self.assertGreater(seen, 100)


class Promise2(unittest.TestCase):
    def test_what_comes_along(self):
        """It comes off the rest, and every set with i in it that comes off its rest has all of it."""
        partly, wholly = 0, 0
        for rows in HOLDING_WORKS + random_works(19, 14, most_side=3, spread=4, most_puts=8):
            text = lines(*rows)
            everything = list(range(put_count(rows)))
            for some in [everything, everything[1:], everything[::2]]:
                for way in range(6):
                    coming_off = self.sets_that_come_off(way, text, some)
                    for i in some:
                        answer = puts.along(i, way, text, some)
                        coming = set(answer[1:])
                        self.assertEqual(answer, [len(coming)] + sorted(coming))
                        self.assertIn(i, coming)
                        self.assertIn(coming, coming_off, (rows, way, some, i))
                        for others in coming_off:
                            self.assertTrue(i not in others or coming <= others, (rows, way, some, i, others))
                        partly += 1 < len(coming) < len(some)
                        wholly += 2 < len(coming) and coming == set(some)
        self.assertGreater(partly, 50)
        self.assertGreater(wholly, 10)

    def sets_that_come_off(self, way, text, some):
        """Of a set all sets of its puts that come off its other puts; the whole of it has none to come off."""
        found = [set(some)]
        for moved_off in subsets(some)[1:-1]:
            left = sorted(set(some) - moved_off)
            if puts.off(way, text, sorted(moved_off), left) == [1]:
                found.append(moved_off)
        return found

    def test_off_the_opposite_way(self):
        """What comes off others one way, they come off from the opposite way."""
        dice = random.Random(20)
        told = []
        for rows in random_works(21, 40, most_side=3, spread=4, most_puts=12):
            text = lines(*rows)
            mixed = list(range(put_count(rows)))
            dice.shuffle(mixed)
            for cut in range(1, len(mixed)):
                some, others = sorted(mixed[:cut]), sorted(mixed[cut:])
                for way in range(6):
                    answer = puts.off(way, text, some, others)
                    self.assertEqual(answer, puts.off(OPPOSITE[way], text, others, some), (rows, way, some, others))
                    told.append(answer[0])
        self.assertGreater(min(told.count(0), told.count(1)), 50)


class Promise3(unittest.TestCase):
    WORKS = HOLDING_WORKS + [BOX + [put(7, 7, 20), put(30, 7, 7)], DRAWER, KNOT, chain(4)]

    def partings(self, text, some):
        """Every way to part a set by one move: the way, what comes off, what is left."""
        found = []
        for moved_off in subsets(some)[1:-1]:
            left = sorted(set(some) - moved_off)
            for way in range(6):
                if puts.off(way, text, sorted(moved_off), left) == [1]:
                    found.append((way, sorted(moved_off), left))
        return found

    def check(self, rows, text, some):
        """Whichever move is made first, both sets come apart just if the whole does."""
        whole = puts.apart(text, some)
        partings = self.partings(text, some)
        for way, moved_off, left in partings:
            both = puts.apart(text, moved_off) == [1] and puts.apart(text, left) == [1]
            self.assertEqual(both, whole == [1], (rows, some, way, moved_off))
        if whole == [1]:
            for part in subsets(some)[1:]:
                self.assertEqual(puts.apart(text, sorted(part)), [1], (rows, some, part))
        self.check_first(puts.first(text, some), partings)
        return whole[0], len(partings) > 0

    def check_first(self, answer, partings):
        """The first move is one of those that can be made, at the least way; there's one just if there are any."""
        if not partings:
            self.assertEqual(answer, [-3])
            return
        count = answer[2]
        coming, left = answer[3:3 + count], answer[4 + count:]
        self.assertEqual(answer, [0, answer[1], len(coming)] + coming + [len(left)] + left)
        self.assertIn((answer[1], coming, left), partings)
        self.assertEqual(answer[1], min(parting[0] for parting in partings))

    def test_whole_works(self):
        told = []
        for rows in self.WORKS + random_tangles(44, 30, most_puts=5) + random_works(45, 10, most_side=3, most_puts=6):
            told.append(self.check(rows, lines(*rows), list(range(put_count(rows)))))
        # Apart; locked at once; locked after some moves.
        for kind in ((1, True), (0, False), (0, True)):
            self.assertGreater(told.count(kind), 3, kind)

    def test_every_set_of_a_work(self):
        for rows in self.WORKS[:4] + random_tangles(46, 5, most_puts=4):
            text = lines(*rows)
            for some in subsets(range(min(put_count(rows), 4)))[1:]:
                self.check(rows, text, sorted(some))


class Promise4(unittest.TestCase):
    WORKS = (HOLDING_WORKS + [BOX + [put(7, 7, 20), put(30, 7, 7)], DRAWER, KNOT, chain(5), BOXES]
             + random_tangles(49, 40, most_puts=6) + random_works(50, 20, most_side=3, spread=3, most_puts=12))

    def replay(self, text, count):
        """Makes the order's moves one after another, each by the first set in the row that can; gives back the row."""
        row = [list(range(count))]
        for way, coming, left in moves_told(puts.order(text)):
            together = sorted(coming + left)
            place = row.index(together)
            for earlier in [earlier for earlier in row[:place] if len(earlier) > 1]:
                self.assertEqual(puts.first(text, earlier), [-3])
            self.assertEqual(puts.off(way, text, coming, left), [1])
            row[place:place + 1] = [coming, left]
        return row

    def test_one_after_another(self):
        """The moves can be made, and in the end nothing is left to be moved; the locked sets are those told."""
        for rows in self.WORKS:
            text = lines(*rows)
            row = self.replay(text, put_count(rows))
            for together in row:
                self.assertEqual(puts.first(text, together), [-3], rows)
            self.assertEqual([together for together in row if len(together) > 1], sets_told(puts.locked(text)), rows)

    def test_locked_however_one_begins(self):
        seen = 0
        for rows in self.WORKS:
            text = lines(*rows)
            for together in sets_told(puts.locked(text)):
                seen += 1
                self.assertEqual(puts.apart(text, together), [0], rows)
                for some in subsets(together)[1:-1]:
                    rest = sorted(set(together) - some)
                    for way in range(6):
                        self.assertEqual(puts.off(way, text, sorted(some), rest), [0], (rows, together, some))
        self.assertGreater(seen, 30)

    def test_other_moves_leave_the_same_sets(self):
        """Whatever moves are made, as long as there are any: the same sets are left locked."""
        dice = random.Random(57)
        for rows in self.WORKS:
            text = lines(*rows)
            waiting, left = [list(range(put_count(rows)))], []
            while waiting:
                together = waiting.pop()
                move = self.some_move(dice, text, together)
                if move:
                    waiting.extend(move)
                else:
                    left.append(together)
            self.assertEqual(sorted(some for some in left if len(some) > 1), sorted(sets_told(puts.locked(text))), rows)

    def some_move(self, dice, text, together):
        """What comes along and what's left of one of the moves that single puts can make, or None."""
        tries = [(i, way) for i in together for way in range(6)]
        dice.shuffle(tries)
        for i, way in tries:
            coming = puts.along(i, way, text, together)[1:]
            if len(coming) < len(together):
                return [coming, [j for j in together if j not in coming]]
        return None

    def test_backwards_the_work_is_put_together(self):
        for rows in self.WORKS:
            text = lines(*rows)
            sets = sets_told(puts.locked(text))
            held = [i for together in sets for i in together]
            sets += [[i] for i in range(put_count(rows)) if i not in held]
            for way, coming, left in reversed(moves_told(puts.order(text))):
                # Pushed on the opposite way to that in which it was drawn off, it meets nothing on its way back.
                self.assertEqual(puts.off(OPPOSITE[way], text, left, coming), [1])
                sets.remove(coming)
                sets.remove(left)
                sets.append(sorted(coming + left))
            self.assertEqual(sets, [list(range(put_count(rows)))], rows)


class Promise5(unittest.TestCase):
    def test_moved(self):
        for rows in random_works(8, 40) + random_tangles(47, 15):
            told = all_answers(rows)
            for by in ((1, 0, 0), (0, 7, 0), (0, 0, 36), (36, 36, 36), (3, 20, 11)):
                self.assertEqual(all_answers(moved(rows, by)), told, (rows, by))

    def test_renamed(self):
        names = {"p0": "p1", "p1": "p0", "p2": "abcdefghijkl", "p3": "9", "p4": "put"}
        for rows in random_works(9, 40) + random_tangles(48, 15):
            self.assertEqual(all_answers(renamed(rows, names)), all_answers(rows), rows)

    def test_judge_of_moved_and_renamed(self):
        dice = random.Random(10)
        names = {"p0": "p3", "p1": "z", "p2": "000", "p3": "p0"}
        told = set()
        for count in range(150):
            rows = random_rows(dice, spread=6)
            answer = puts.judge(lines(*rows))
            told.add(answer[0])
            self.assertEqual(puts.judge(lines(*moved(rows, (30, 2, 17)))), answer, rows)
            self.assertEqual(puts.judge(lines(*renamed(rows, names))), answer, rows)
        self.assertEqual(told, {0, -9})


class EveryCall(unittest.TestCase):
    LISTS = ([0, 1], [0], [1, 0], [], [0, 0], [0, 1, 7], [LARGEST] * 100)

    def calls(self, text, make=list):
        """Each call with its arguments, the lists among them made anew."""
        yield puts.judge, (make(text),)
        for i, way in ((0, 0), (1, 4), (0, 6), (7, 1), (LARGEST, LARGEST)):
            yield puts.stands, (i, way, make(text))
            for some in self.LISTS:
                yield puts.along, (i, way, make(text), make(some))
        for way in (0, 4, 6):
            for some, others in (([0], [1]), ([1], [0]), ([0, 1], [1]), ([1, 0], [0]), ([0], []), ([9] * 99, [8] * 99)):
                yield puts.off, (way, make(text), make(some), make(others))
        for some in self.LISTS:
            yield puts.first, (make(text), make(some))
            yield puts.apart, (make(text), make(some))
        yield puts.order, (make(text),)
        yield puts.locked, (make(text),)

    def test_nothing_handed_in_is_changed(self):
        for name, text in TEXTS.items():
            for call, handed in self.calls(text):
                before = copy.deepcopy(handed)
                call(*handed)
                self.assertEqual(handed, before, name)

    def test_not_for_a_while_either(self):
        for text in TEXTS.values():
            for call, handed in self.calls(text, Frozen):
                call(*handed)

    def test_one_list_handed_in_twice(self):
        some = [0, 1]
        self.assertEqual(puts.off(0, TEXTS["right"], some, some), [-8])
        self.assertEqual(some, [0, 1])

    def test_the_same_call_twice(self):
        for name, text in TEXTS.items():
            for call, handed in self.calls(text):
                self.assertEqual(call(*handed), call(*handed), name)

    def test_nothing_is_kept(self):
        """Calls in between, and a spoilt answer, change no answer."""
        before = {name: [call(*handed) for call, handed in self.calls(text)] for name, text in TEXTS.items()}
        for text in TEXTS.values():
            for call, handed in self.calls(text):
                call(*handed).append(99)
        for name, text in reversed(TEXTS.items()):
            self.assertEqual([call(*handed) for call, handed in self.calls(text)], before[name], name)

    def test_an_answer_is_none_of_the_lists_handed_in(self):
        for text in TEXTS.values():
            for call, handed in self.calls(text):
                answer = call(*handed)
                self.assertFalse(any(answer is given for given in handed))

    def test_answers_are_lists_of_whole_numbers(self):
        for name, text in TEXTS.items():
            for call, handed in self.calls(text):
                answer = call(*handed)
                self.assertIs(type(answer), list)
                self.assertEqual({type(number) for number in answer}, {int}, name)

    def test_nothing_is_printed(self):
        out, err = io.StringIO(), io.StringIO()
        with contextlib.redirect_stdout(out), contextlib.redirect_stderr(err):
            for text in TEXTS.values():
                for call, handed in self.calls(text):
                    call(*handed)
        self.assertEqual(out.getvalue() + err.getvalue(), "")

    def test_few_calls_within_one_another(self):
        """Long texts, and works of many moves, nest no deeper than others."""
        many = ([UNIT] + [put(number, 0, 0) for number in range(32)], chain(17), BOXES)
        texts = list(TEXTS.values()) + [lines(*rows) for rows in many] + [[10] * 65536]
        deep, frame = 0, sys._getframe()
        while frame:
            deep, frame = deep + 1, frame.f_back
        before = sys.getrecursionlimit()
        sys.setrecursionlimit(deep + 40)
        try:
            for text in texts:
                for call, handed in self.calls(text):
                    call(*handed)
        finally:
            sys.setrecursionlimit(before)

    def test_arguments_by_name(self):
        text = TEXTS["right"]
        self.assertEqual(puts.judge(text=text), [0])
        self.assertEqual(puts.stands(i=0, way=0, text=text), [1, 1])
        self.assertEqual(puts.along(i=0, way=0, text=text, puts=[0, 1]), [2, 0, 1])
        self.assertEqual(puts.off(way=4, text=text, puts=[0], others=[1]), [1])
        self.assertEqual(puts.first(text=text, puts=[0, 1]), [0, 4, 1, 0, 1, 1])
        self.assertEqual(puts.apart(text=text, puts=[0, 1]), [1])
        self.assertEqual(puts.order(text=text), [1, 4, 1, 0, 1, 1])
        self.assertEqual(puts.locked(text=text), [0])


if __name__ == "__main__":
    unittest.main()

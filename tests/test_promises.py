"""The promises that go across calls, and what the interface says of every call."""

import contextlib
import io
import random
import re
import unittest

from holding import puts
from tests.helper import OPPOSITE, Frozen, lines, random_rows, random_works

TEXTS = {
    "right": lines("part a 3 3 3 x", "cut 1 1 0 1 1 3", "part b 1 1 9 z", "put a rb 5 5 5", "put b rb 6 6 2"),
    "empty": [],
    "faulty": lines("part a 3 3 3 x", "cut 9 9 9 1 1 1"),
    "unended": lines("part a 3 3 3 x")[:-1],
    "overlapping": lines("part a 3 3 3 x", "put a rb 0 0 0", "put a rb 2 2 2"),
    "long": [97] * 65537,
}


def put_count(rows):
    return sum(row.startswith("put ") for row in rows)


def all_answers(rows):
    text = lines(*rows)
    return [puts.stands(i, way, text) for i in range(put_count(rows)) for way in range(6)]


def moved(rows, by):
    """The same work with each put's corner moved."""
    new = []
    for row in rows:
        words = row.split(" ")
        if words[0] == "put":
            words[3:] = [str(int(word) + step) for word, step in zip(words[3:], by)]
        new.append(" ".join(words))
    return new


def renamed(rows, names):
    return [re.sub(r"^(part|put) (\S+)", lambda found: found[1] + " " + names[found[2]], row) for row in rows]


class Promise1(unittest.TestCase):
    def test_the_opposite_way(self):
        seen = 0
        for rows in random_works(7, 60, most_puts=10):
            text = lines(*rows)
            count = put_count(rows)
            told = {(i, way): puts.stands(i, way, text)[1:] for i in range(count) for way in range(6)}
            for i in range(count):
                for j in range(count):
                    for way in range(6):
                        self.assertEqual(j in told[i, way], i in told[j, OPPOSITE[way]], (rows, i, j, way))
                        seen += j in told[i, way]
        self.assertGreater(seen, 100)


class Promise5(unittest.TestCase):
    def test_moved(self):
        for rows in random_works(8, 40):
            for by in ((1, 0, 0), (0, 7, 0), (0, 0, 36), (36, 36, 36), (3, 20, 11)):
                self.assertEqual(all_answers(moved(rows, by)), all_answers(rows), (rows, by))

    def test_renamed(self):
        names = {"p0": "p1", "p1": "p0", "p2": "abcdefghijkl", "p3": "9"}
        for rows in random_works(9, 40):
            self.assertEqual(all_answers(renamed(rows, names)), all_answers(rows), rows)

    def test_judge_of_moved_and_renamed(self):
        dice = random.Random(10)
        names = {"p0": "p3", "p1": "z", "p2": "000", "p3": "p0"}
        told = set()
        for count in range(150):
            rows = random_rows(dice, spread=6)
            answer = puts.judge(lines(*rows))
            told.add(answer[0])
            self.assertEqual(puts.judge(lines(*moved(rows, (30, 2, 17)))), answer, rows)
            self.assertEqual(puts.judge(lines(*renamed(rows, names))), answer, rows)
        self.assertEqual(told, {0, -9})


class EveryCall(unittest.TestCase):
    def calls(self, text):
        yield lambda: puts.judge(text)
        for i, way in ((0, 0), (1, 4), (0, 6), (7, 1), (4294967295, 4294967295)):
            yield lambda: puts.stands(i, way, text)

    def test_nothing_handed_in_is_changed(self):
        for name, text in TEXTS.items():
            handed = list(text)
            for call in self.calls(handed):
                call()
                self.assertEqual(handed, text, name)

    def test_not_for_a_while_either(self):
        for text in TEXTS.values():
            for call in self.calls(Frozen(text)):
                call()

    def test_the_same_call_twice(self):
        for name, text in TEXTS.items():
            for call in self.calls(text):
                self.assertEqual(call(), call(), name)

    def test_nothing_is_kept(self):
        """Calls in between, and a spoilt answer, change no answer."""
        before = {name: [call() for call in self.calls(text)] for name, text in TEXTS.items()}
        for text in TEXTS.values():
            for call in self.calls(text):
                call().append(99)
        for name, text in reversed(TEXTS.items()):
            self.assertEqual([call() for call in self.calls(text)], before[name], name)

    def test_answers_are_lists_of_whole_numbers(self):
        for name, text in TEXTS.items():
            for call in self.calls(text):
                answer = call()
                self.assertIs(type(answer), list)
                self.assertEqual({type(number) for number in answer}, {int}, name)

    def test_nothing_is_printed(self):
        out, err = io.StringIO(), io.StringIO()
        with contextlib.redirect_stdout(out), contextlib.redirect_stderr(err):
            for text in TEXTS.values():
                for call in self.calls(text):
                    call()
        self.assertEqual(out.getvalue() + err.getvalue(), "")

    def test_arguments_by_name(self):
        text = TEXTS["right"]
        self.assertEqual(puts.judge(text=text), [0])
        self.assertEqual(puts.stands(i=0, way=0, text=text), [1, 1])


if __name__ == "__main__":
    unittest.main()

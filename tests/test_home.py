"""home: how far it is from the walker to the first square, as the hedges stand."""

import random
import unittest

import helper
from helper import (
    HOME, REDO, REDO_ROW, TRAIL, UNDO, Case, begin, drawing, firsts, go, go_row, inner_sides, journal_row, load, play,
    run, session_row, set_hedge, set_row, text_bytes, told_behind,
)

# From the upper left to the middle, around and around.
SPIRAL = """\
+-+-+-+-+-+
|         |
+-+-+-+-+ +
|       | |
+ +-+-+ + +
| |   | | |
+ + +-+ + +
| |     | |
+ +-+-+-+ +
|         |
+-+-+-+-+-+
"""
INTO_THE_SPIRAL = [1] * 4 + [2] * 4 + [3] * 4 + [0] * 3 + [1] * 3 + [2] * 2 + [3] * 2 + [0] + [1]


def winding():
    """The garden of 10 by 10 with one way that goes row by row, to and fro, through all squares."""
    hedges = []
    for a, b in inner_sides(10, 10):
        turn = 9 if a // 10 % 2 == 0 else 0
        hedges.append(int(b == a + 10 and a % 10 != turn))
    return drawing(10, 10, hedges)


def down_the_winding():
    steps = []
    for y in range(10):
        steps += [go(1 if y % 2 == 0 else 3)] * 9 + [go(2)]
    return steps[:-1]


def level(x, y):
    return inner_sides(10, 10).index((10 * y + x, 10 * y + x + 10))


class AtTheFirstSquare(Case):
    def test_nothing_gone(self):
        for wide, high in ((1, 1), (1, 10), (10, 1), (10, 10)):
            for hedge in (0, 1):
                garden = drawing(wide, high, [hedge] * len(inner_sides(wide, high)))
                for square in (0, wide * high // 2, wide * high - 1):
                    self.assertEqual(run(begin(garden, square), HOME)[1], [0, 0])

    def test_come_back(self):
        calls = [begin(drawing(2, 2)), go(1), go(2), go(3), go(0)]
        self.assertEqual([told_behind(calls[:size], HOME) for size in range(1, 6)], [[0], [1], [2], [1], [0]])

    def test_shut_in_at_the_first_square(self):
        self.assertEqual(told_behind([begin(drawing(2, 1)), set_hedge(0, 1)], HOME), [0])


class FarOff(Case):
    def test_an_open_garden(self):
        for first in (0, 9, 45, 90, 99):
            steps = [go(1)] * 9 + [go(2)] * 9 + [go(3)] * 9 + [go(0)] * 9
            calls = [begin(drawing(10, 10), first)]
            for step in steps:
                calls.append(step)
                square = told_behind(calls, TRAIL)[-1]
                expected = abs(square % 10 - first % 10) + abs(square // 10 - first // 10)
                self.assertEqual(told_behind(calls, HOME), [expected])

    def test_one_wide_and_one_high(self):
        self.assertEqual(told_behind([begin(drawing(1, 10))] + [go(2)] * 9, HOME), [9])
        self.assertEqual(told_behind([begin(drawing(1, 10), 9)] + [go(0)] * 9, HOME), [9])
        self.assertEqual(told_behind([begin(drawing(10, 1))] + [go(1)] * 9, HOME), [9])
        self.assertEqual(told_behind([begin(drawing(10, 1), 9)] + [go(3)] * 9, HOME), [9])

    def test_a_long_winding_way(self):
        calls = [begin(winding())] + down_the_winding()
        self.assertEqual(firsts(*calls), [0] * 100)
        for size in range(1, 101):
            self.assertEqual(told_behind(calls[:size], HOME), [size - 1])

    def test_a_spiral(self):
        calls = [begin(text_bytes(SPIRAL))] + [go(k) for k in INTO_THE_SPIRAL]
        self.assertEqual(firsts(*calls), [0] * 25)
        self.assertEqual([told_behind(calls[:size], HOME) for size in range(1, 26)], [[size] for size in range(25)])

    def test_the_shorter_of_two_ways(self):
        # A ring of 16 squares: beyond its middle it is nearer to go on than to go back.
        ring = [int(not (edge(a) and edge(b))) for a, b in inner_sides(5, 5)]
        calls = [begin(drawing(5, 5, ring))] + [go(k) for k in [1] * 4 + [2] * 4 + [3] * 4 + [0] * 4]
        expected = list(range(9)) + list(range(7, -1, -1))
        self.assertEqual([told_behind(calls[:size], HOME) for size in range(1, 18)], [[steps] for steps in expected])

    def test_random_gardens_and_walks(self):
        chance = random.Random(10)
        for _ in range(150):
            wide, high = chance.randint(1, 10), chance.randint(1, 10)
            hedges = [int(chance.random() < 0.3) for _ in inner_sides(wide, high)]
            calls = [begin(drawing(wide, high, hedges), chance.randrange(wide * high))]
            calls += [go(chance.randrange(4)) for _ in range(40)]
            calls += [set_hedge(p, chance.randrange(2)) for p in range(0, len(hedges), 5)] + [HOME]
            model = helper.Model()
            self.assertEqual(run(*calls), [model.answer(call) for call in calls])


def edge(square):
    return square % 5 in (0, 4) or square // 5 in (0, 4)


class AsTheHedgesStand(Case):
    def test_shorter_behind_a_hedge_that_was_opened(self):
        calls = [begin(winding())] + down_the_winding()
        told = run(*calls, set_hedge(level(0, 8), 0), HOME, set_hedge(level(9, 7), 0), HOME, set_hedge(level(0, 0), 0),
                   HOME, UNDO, HOME, UNDO, HOME, UNDO, HOME, REDO, HOME)
        self.assertEqual(told[101::2], [[0, 81], [0, 81], [0, 63], [0, 81], [0, 81], [0, 99], [0, 81]])

    def test_longer_behind_a_hedge_that_was_planted(self):
        calls = [begin(drawing(2, 2)), go(1)]
        self.assertEqual(told_behind(calls, HOME), [1])
        self.assertEqual(told_behind(calls + [set_hedge(0, 1)], HOME), [3])
        self.assertEqual(told_behind(calls + [set_hedge(0, 1), UNDO], HOME), [1])
        self.assertEqual(told_behind(calls + [set_hedge(0, 1), UNDO, REDO], HOME), [3])

    def test_a_hedge_elsewhere(self):
        self.assertEqual(told_behind([begin(drawing(2, 2)), go(1), set_hedge(1, 1)], HOME), [1])

    def test_behind_load_and_play(self):
        session = session_row(drawing(2, 2), 0, [go_row(1)], [set_row(0, 1)])
        self.assertEqual(told_behind([load(session)], HOME), [1])
        journal = journal_row(session, [REDO_ROW, set_row(1, 1)])
        self.assertEqual(told_behind([play(journal[:-12])], HOME), [3])
        self.assertEqual(run(play(journal), HOME)[1], [-5])


class NoWay(Case):
    def test_hedges_behind_the_walker(self):
        for start, k, p in ((begin(drawing(2, 1)), 1, 0), (begin(drawing(2, 1), 1), 3, 0), (begin(drawing(1, 2)), 2, 0),
                            (begin(drawing(1, 10), 9), 0, 8), (begin(drawing(10, 1), 4), 1, 4)):
            self.assertEqual(run(start, go(k), set_hedge(p, 1), HOME)[-1], [-5])
            self.assertEqual(run(start, go(k), set_hedge(p, 1), UNDO, HOME, REDO, HOME)[-3::2], [[0, 1], [-5]])
            self.assertEqual(run(start, go(k), set_hedge(p, 1), set_hedge(p, 0), HOME)[-1], [0, 1])

    def test_the_first_square_shut_in(self):
        calls = [begin(drawing(10, 10), 55)] + [go(1)] * 3
        self.assertEqual(told_behind(calls, HOME), [3])
        for pair, expected in (((55, 56), [5]), ((45, 55), [5]), ((55, 65), [7]), ((54, 55), -5)):
            calls.append(set_hedge(inner_sides(10, 10).index(pair), 1))
            self.assertEqual(told_behind(calls, HOME), expected)

    def test_it_is_refused_alone_and_changes_nothing(self):
        calls = [begin(drawing(2, 1)), go(1), set_hedge(0, 1), UNDO, set_hedge(0, 1)]
        self.assertEqual(helper.held_behind(*calls, HOME), helper.held_behind(*calls))
        self.assertEqual(run(*calls, HOME, HOME, UNDO, HOME)[-4:-2], [[-5], [-5]])
        self.assertEqual(run(*calls, HOME, UNDO)[-1], run(*calls, UNDO)[-1])


if __name__ == "__main__":
    unittest.main()

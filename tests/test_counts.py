"""counts: size, passages, rooms, rings, the walker's square, and the steps."""

import itertools
import random
import unittest

import helper
from helper import (
    COUNTS, REDO, REDO_ROW, UNDO, Case, begin, drawing, go, go_row, inner_sides, journal_row, load, play, run,
    session_row, set_hedge, set_row, text_bytes, told_behind,
)

RINGS_WITHIN_RINGS = """\
+-+-+-+-+-+
|         |
+ +-+-+-+ +
| |     | |
+ + +-+ + +
| | | | | |
+ + +-+ + +
| |     | |
+ +-+-+-+ +
|         |
+-+-+-+-+-+
"""

COMB = """\
+-+-+-+-+
|       |
+ + + + +
| | | | |
+ + + + +
| | | | |
+-+-+-+-+
"""


def of_garden(garden):
    """passages, rooms, rings"""
    return told_behind([begin(garden)], COUNTS)[2:5]


class Gardens(Case):
    def test_sizes_open_and_grown_over(self):
        open_ones = {(1, 1): [0, 1, 0], (1, 10): [9, 1, 0], (10, 1): [9, 1, 0], (10, 10): [180, 1, 81],
                     (2, 2): [4, 1, 1], (3, 2): [7, 1, 2], (2, 3): [7, 1, 2]}
        for (wide, high), expected in open_ones.items():
            last = wide * high - 1
            self.assertEqual(run(begin(drawing(wide, high), last), COUNTS)[1], [0, wide, high] + expected + [last, 0, 0])
            hedges = [1] * len(inner_sides(wide, high))
            told = run(begin(drawing(wide, high, hedges), last), COUNTS)[1]
            self.assertEqual(told, [0, wide, high, 0, wide * high, 0, last, 0, 0])

    def test_one_passage_or_one_hedge(self):
        for wide, high in ((1, 10), (10, 1), (10, 10), (3, 2)):
            sides = len(inner_sides(wide, high))
            for p in range(sides):
                alone = [1] * sides
                alone[p] = 0
                self.assertEqual(of_garden(drawing(wide, high, alone)), [1, wide * high - 1, 0])
                others = [1 - hedge for hedge in alone]
                rooms = 2 if 1 in (wide, high) else 1
                rings = sides - 1 + rooms - wide * high
                self.assertEqual(of_garden(drawing(wide, high, others)), [sides - 1, rooms, rings])

    def test_rings_within_rings(self):
        garden = text_bytes(RINGS_WITHIN_RINGS)
        self.assertEqual(of_garden(garden), [24, 3, 2])
        # A passage from ring to ring makes one room of two, and no ring; a second one makes a ring.
        joined = [begin(garden), set_hedge(4, 0)]
        self.assertEqual(told_behind(joined, COUNTS)[2:5], [25, 2, 2])
        self.assertEqual(told_behind(joined + [set_hedge(7, 0)], COUNTS)[2:5], [26, 2, 3])

    def test_rings_within_rings_of_ten(self):
        def depth(square):
            x, y = square % 10, square // 10
            return min(x, y, 9 - x, 9 - y)

        hedges = [int(depth(a) != depth(b)) for a, b in inner_sides(10, 10)]
        self.assertEqual(of_garden(drawing(10, 10, hedges)), [100, 5, 5])

    def test_many_rooms(self):
        stripes = [0] * 90 + [1] * 90
        self.assertEqual(of_garden(drawing(10, 10, stripes)), [90, 10, 0])
        stripes = [1] * 90 + [0] * 90
        self.assertEqual(of_garden(drawing(10, 10, stripes)), [90, 10, 0])
        blocks = [int(a % 10 // 2 != b % 10 // 2 or a // 20 != b // 20) for a, b in inner_sides(10, 10)]
        self.assertEqual(of_garden(drawing(10, 10, blocks)), [100, 25, 25])

    def test_a_room_that_begins_in_several_places(self):
        self.assertEqual(of_garden(text_bytes(COMB)), [11, 1, 0])
        upside_down = [line for line in COMB.split("\n") if line][::-1]
        self.assertEqual(of_garden(text_bytes("\n".join(upside_down) + "\n")), [11, 1, 0])

    def test_all_small_gardens(self):
        for wide, high in ((2, 2), (3, 2), (2, 3), (1, 4), (4, 1)):
            for hedges in itertools.product((0, 1), repeat=len(inner_sides(wide, high))):
                self.check_as_told_again(drawing(wide, high, hedges))

    def test_random_gardens(self):
        chance = random.Random(9)
        for _ in range(150):
            wide, high = chance.randint(1, 10), chance.randint(1, 10)
            share = chance.random()
            self.check_as_told_again(drawing(wide, high, [int(chance.random() < share) for _ in inner_sides(wide, high)]))

    def check_as_told_again(self, garden):
        model = helper.Model()
        model.begin(garden, 0)
        self.assertEqual(told_behind([begin(garden)], COUNTS), model.counts(), garden)


class BehindChanges(Case):
    def test_behind_set_undo_and_redo(self):
        told = run(begin(drawing(2, 2)), COUNTS, set_hedge(0, 1), COUNTS, set_hedge(1, 1), COUNTS, UNDO, COUNTS, UNDO,
                   COUNTS, REDO, COUNTS, set_hedge(0, 0), COUNTS)
        self.assertEqual(told[1::2], [
            [0, 2, 2, 4, 1, 1, 0, 0, 0], [0, 2, 2, 3, 1, 0, 0, 1, 0], [0, 2, 2, 2, 2, 0, 0, 2, 0],
            [0, 2, 2, 3, 1, 0, 0, 1, 1], [0, 2, 2, 4, 1, 1, 0, 0, 2], [0, 2, 2, 3, 1, 0, 0, 1, 1],
            [0, 2, 2, 4, 1, 1, 0, 2, 0]])

    def test_set_to_what_it_was_is_a_step(self):
        told = run(begin(drawing(2, 1)), set_hedge(0, 0), COUNTS, UNDO, COUNTS)
        self.assertEqual(told[2::2], [[0, 2, 1, 1, 1, 0, 0, 1, 0], [0, 2, 1, 1, 1, 0, 0, 0, 1]])

    def test_behind_go_undo_and_redo(self):
        told = run(begin(drawing(3, 3), 4), go(0), COUNTS, go(1), COUNTS, go(2), COUNTS, UNDO, COUNTS, UNDO, COUNTS,
                   UNDO, COUNTS, REDO, COUNTS, go(3), COUNTS)
        squares_and_steps = [answer[6:] for answer in told[2::2]]
        self.assertEqual(squares_and_steps, [[1, 1, 0], [2, 2, 0], [5, 3, 0], [2, 2, 1], [1, 1, 2], [4, 0, 3], [1, 1, 2],
                                             [0, 2, 0]])
        self.assertTrue(all(answer[:6] == [0, 3, 3, 12, 1, 4] for answer in told[2::2]))

    def test_200_steps(self):
        calls = [begin(drawing(2, 1))] + [go(1), go(3)] * 100
        self.assertEqual(told_behind(calls, COUNTS), [2, 1, 1, 1, 0, 0, 200, 0])
        self.assertEqual(told_behind(calls + [go(1)], COUNTS), [2, 1, 1, 1, 0, 0, 200, 0])
        self.assertEqual(told_behind(calls + [UNDO], COUNTS), [2, 1, 1, 1, 0, 1, 199, 1])
        calls = [begin(drawing(2, 1))] + [set_hedge(0, 1), set_hedge(0, 0)] * 95
        self.assertEqual(told_behind(calls + [UNDO] * 189, COUNTS), [2, 1, 0, 2, 0, 0, 1, 189])
        self.assertEqual(told_behind(calls + [UNDO] * 190, COUNTS), [2, 1, 1, 1, 0, 0, 0, 190])

    def test_behind_load_and_play(self):
        session = session_row(drawing(3, 1), 1, [go_row(1), set_row(0, 1)], [set_row(1, 1)])
        self.assertEqual(told_behind([load(session)], COUNTS), [3, 1, 1, 2, 0, 2, 2, 1])
        journal = journal_row(session, [REDO_ROW, set_row(0, 0)])
        self.assertEqual(told_behind([play(journal[:-1])], COUNTS), [3, 1, 0, 3, 0, 2, 3, 0])
        self.assertEqual(told_behind([play(journal)], COUNTS), [3, 1, 1, 2, 0, 2, 4, 0])


if __name__ == "__main__":
    unittest.main()

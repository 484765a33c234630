"""drawn: the garden as it stands."""

import itertools
import random
import unittest

from helper import (
    DRAWN, REDO, REDO_ROW, UNDO, UNDO_ROW, Case, begin, drawing, go, go_row, inner_sides, journal_row, load, play, run,
    session_row, set_hedge, set_row, text_bytes, told_behind,
)

SIZES = ((1, 1), (1, 10), (10, 1), (10, 10), (1, 2), (2, 1), (2, 2), (3, 2), (7, 4))


class AsBegun(Case):
    def test_written_drawings(self):
        for text in ("+-+\n| |\n+-+\n", "+-+-+\n| | |\n+-+-+\n", "+-+\n| |\n+-+\n| |\n+-+\n", "+-+\n| |\n+ +\n| |\n+-+\n",
                     "+-+-+-+\n|   | |\n+ +-+ +\n|     |\n+-+-+-+\n"):
            self.assertEqual(told_behind([begin(text_bytes(text))], DRAWN), text_bytes(text))

    def test_sizes_open_and_grown_over(self):
        for wide, high in SIZES:
            for hedge in (0, 1):
                garden = drawing(wide, high, [hedge] * len(inner_sides(wide, high)))
                for square in (0, wide * high - 1):
                    self.assertEqual(run(begin(garden, square), DRAWN)[1], [0] + garden)

    def test_all_small_gardens(self):
        for wide, high in ((2, 2), (3, 2), (2, 3), (1, 5), (5, 1)):
            for hedges in itertools.product((0, 1), repeat=len(inner_sides(wide, high))):
                garden = drawing(wide, high, hedges)
                self.assertEqual(told_behind([begin(garden)], DRAWN), garden)

    def test_random_large_gardens(self):
        chance = random.Random(8)
        for _ in range(100):
            wide, high = chance.randint(1, 10), chance.randint(1, 10)
            garden = drawing(wide, high, [chance.randrange(2) for _ in inner_sides(wide, high)])
            self.assertEqual(told_behind([begin(garden)], DRAWN), garden)


class AsItStands(Case):
    def test_each_side_set_taken_back_and_set_again(self):
        for wide, high in ((3, 2), (1, 10), (10, 1), (10, 10)):
            for p, old in itertools.product(range(len(inner_sides(wide, high))), (0, 1)):
                hedges = [old] * len(inner_sides(wide, high))
                before = drawing(wide, high, hedges)
                hedges[p] = 1 - old
                behind = drawing(wide, high, hedges)
                told = run(begin(before), set_hedge(p, 1 - old), DRAWN, UNDO, DRAWN, REDO, DRAWN)
                self.assertEqual(told[2::2], [[0] + behind, [0] + before, [0] + behind])

    def test_set_to_what_it_was(self):
        for old in (0, 1):
            garden = drawing(2, 2, [old] * 4)
            calls = [begin(garden), set_hedge(2, old)]
            self.assertEqual(told_behind(calls, DRAWN), garden)
            self.assertEqual(told_behind(calls + [UNDO], DRAWN), garden)

    def test_all_sides_one_by_one(self):
        sides = len(inner_sides(10, 10))
        calls = [begin(drawing(10, 10))] + [set_hedge(p, 1) for p in range(sides)]
        self.assertEqual(told_behind(calls, DRAWN), drawing(10, 10, [1] * sides))
        self.assertEqual(told_behind(calls + [UNDO] * 80, DRAWN), drawing(10, 10, [1] * 100 + [0] * 80))
        self.assertEqual(told_behind(calls + [UNDO] * sides, DRAWN), drawing(10, 10))

    def test_the_walker_is_not_drawn(self):
        garden = drawing(3, 3)
        told = run(begin(garden, 4), go(0), DRAWN, go(1), DRAWN, UNDO, DRAWN)
        self.assertEqual(told[2::2], [[0] + garden] * 3)

    def test_refused_it_stands_as_it_was(self):
        garden = drawing(2, 2, [1, 0, 0, 1])
        told = run(begin(garden), set_hedge(0, 2), set_hedge(4, 0), go(1), DRAWN)
        self.assertEqual(told[1:], [[-1], [-4], [-4], [0] + garden])

    def test_behind_load_and_play(self):
        session = session_row(drawing(2, 2), 0, [set_row(0, 1), go_row(2)], [set_row(1, 1)])
        self.assertEqual(told_behind([load(session)], DRAWN), drawing(2, 2, [1, 0, 0, 0]))
        self.assertEqual(told_behind([load(session), REDO], DRAWN), drawing(2, 2, [1, 1, 0, 0]))
        journal = journal_row(session, [REDO_ROW, set_row(3, 1), UNDO_ROW, set_row(2, 1)])
        for size, hedges in enumerate(([1, 0, 0, 0], [1, 1, 0, 0], [1, 1, 0, 1], [1, 1, 0, 0], [1, 1, 1, 0])):
            torn = journal[:len(journal) - 12 * (4 - size)]
            self.assertEqual(told_behind([play(torn)], DRAWN), drawing(2, 2, hedges))

    def test_begun_with_what_was_drawn(self):
        calls = [begin(drawing(4, 3)), set_hedge(0, 1), set_hedge(9, 1), set_hedge(16, 1)]
        drawn = told_behind(calls, DRAWN)
        self.assertEqual(run(begin(drawn), DRAWN), [[0], [0] + drawn])


if __name__ == "__main__":
    unittest.main()

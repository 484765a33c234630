"""trail: from the first square to the walker's, a square for each step gone."""

import random
import unittest

from helper import (
    COUNTS, REDO, REDO_ROW, TRAIL, UNDO, UNDO_ROW, Case, begin, drawing, go, go_row, inner_sides, journal_row, load,
    play, run, session_row, set_hedge, set_row, told_behind,
)


class Trail(Case):
    def test_nothing_gone(self):
        for wide, high in ((1, 1), (1, 10), (10, 1), (10, 10)):
            for hedge in (0, 1):
                garden = drawing(wide, high, [hedge] * len(inner_sides(wide, high)))
                for square in (0, wide * high - 1):
                    self.assertEqual(run(begin(garden, square), TRAIL)[1], [0, square])

    def test_each_way(self):
        self.assertEqual(told_behind([begin(drawing(3, 3), 4), go(0)], TRAIL), [4, 1])
        self.assertEqual(told_behind([begin(drawing(3, 3), 4), go(1)], TRAIL), [4, 5])
        self.assertEqual(told_behind([begin(drawing(3, 3), 4), go(2)], TRAIL), [4, 7])
        self.assertEqual(told_behind([begin(drawing(3, 3), 4), go(3)], TRAIL), [4, 3])

    def test_long_and_narrow_gardens(self):
        self.assertEqual(told_behind([begin(drawing(1, 10))] + [go(2)] * 9, TRAIL), list(range(10)))
        self.assertEqual(told_behind([begin(drawing(10, 1), 9)] + [go(3)] * 9, TRAIL), list(range(9, -1, -1)))
        self.assertEqual(told_behind([begin(drawing(10, 10), 99)] + [go(0)] * 9, TRAIL), list(range(99, 0, -10)))

    def test_to_and_fro(self):
        told = told_behind([begin(drawing(2, 1)), go(1), go(3), go(1), go(3), go(1)], TRAIL)
        self.assertEqual(told, [0, 1, 0, 1, 0, 1])

    def test_around(self):
        steps = [go(1), go(2), go(3), go(0)] * 2
        self.assertEqual(told_behind([begin(drawing(2, 2))] + steps, TRAIL), [0, 1, 3, 2, 0, 1, 3, 2, 0])

    def test_steps_refused_are_not_gone(self):
        told = told_behind([begin(drawing(2, 2, [0, 1, 0, 0])), go(0), go(1), go(1), go(2), go(3), go(4)], TRAIL)
        self.assertEqual(told, [0, 1, 3])

    def test_sets_between(self):
        calls = [begin(drawing(2, 2)), set_hedge(0, 1), go(2), set_hedge(0, 0), set_hedge(2, 1), go(1), set_hedge(1, 1)]
        self.assertEqual(told_behind(calls, TRAIL), [0, 2, 3])
        self.assertEqual(told_behind(calls[:2], TRAIL), [0])

    def test_a_hedge_planted_on_the_trail(self):
        calls = [begin(drawing(3, 1)), go(1), set_hedge(0, 1), go(1)]
        self.assertEqual(told_behind(calls, TRAIL), [0, 1, 2])

    def test_behind_undo_and_redo(self):
        calls = [begin(drawing(3, 3), 4), go(0), set_hedge(0, 1), go(1), go(2), set_hedge(5, 1)]
        trails = [[4], [4, 1], [4, 1], [4, 1, 2], [4, 1, 2, 5], [4, 1, 2, 5]]
        for back in range(6):
            for forth in range(back + 1):
                told = told_behind(calls + [UNDO] * back + [REDO] * forth, TRAIL)
                self.assertEqual(told, trails[5 - back + forth])

    def test_another_way_behind_undo(self):
        calls = [begin(drawing(3, 3), 4), go(0), go(1), UNDO, go(3)]
        self.assertEqual(told_behind(calls, TRAIL), [4, 1, 0])
        self.assertEqual(told_behind(calls + [REDO], TRAIL), [4, 1, 0])
        self.assertEqual(told_behind(calls + [UNDO, UNDO], TRAIL), [4])

    def test_behind_load_and_play(self):
        session = session_row(drawing(3, 3), 4, [go_row(0), set_row(0, 1), go_row(1)], [go_row(2)])
        self.assertEqual(told_behind([load(session)], TRAIL), [4, 1, 2])
        self.assertEqual(told_behind([load(session), REDO], TRAIL), [4, 1, 2, 5])
        journal = journal_row(session, [REDO_ROW, go_row(2), UNDO_ROW, go_row(3)])
        self.assertEqual(told_behind([play(journal)], TRAIL), [4, 1, 2, 5, 4])
        self.assertEqual(told_behind([play(journal[:-1])], TRAIL), [4, 1, 2, 5])
        self.assertEqual(told_behind([play(journal[:-13])], TRAIL), [4, 1, 2, 5, 8])

    def test_200_steps(self):
        calls = [begin(drawing(1, 2))] + [go(2), go(0)] * 100
        self.assertEqual(told_behind(calls, TRAIL), [0, 1] * 100 + [0])
        self.assertEqual(told_behind(calls + [go(2)], TRAIL), [0, 1] * 100 + [0])
        self.assertEqual(told_behind(calls + [UNDO], TRAIL), [0, 1] * 100)
        self.assertEqual(told_behind(calls + [UNDO] * 198, TRAIL), [0, 1, 0])
        half = [begin(drawing(1, 2))] + [go(2), set_hedge(0, 1), set_hedge(0, 0), go(0)] * 50
        self.assertEqual(told_behind(half, TRAIL), [0, 1] * 50 + [0])

    def test_each_beside_the_one_before(self):
        chance = random.Random(11)
        for _ in range(100):
            wide, high = chance.randint(1, 6), chance.randint(1, 6)
            sides = inner_sides(wide, high)
            first = chance.randrange(wide * high)
            calls = [begin(drawing(wide, high, [int(chance.random() < 0.3) for _ in sides]), first)]
            for _ in range(80):
                calls.append(chance.choice((go(chance.randrange(4)), go(chance.randrange(4)), UNDO, REDO,
                                            set_hedge(chance.randrange(60), chance.randrange(2)))))
            squares = told_behind(calls, TRAIL)
            self.assertEqual(squares[0], first)
            self.assertEqual(squares[-1], told_behind(calls, COUNTS)[5])
            for a, b in zip(squares, squares[1:]):
                self.assertIn((min(a, b), max(a, b)), sides)


if __name__ == "__main__":
    unittest.main()

"""What drawn, counts, home, trail, save and head have in common: -10, and that they change nothing else."""

import unittest

from helper import (
    COUNTS, DRAWN, HEAD, HOME, QUESTIONS, REDO, SAVE, TRAIL, UNDO, Case, begin, drawing, go, go_row, head_row,
    held_behind, journal_row, load, play, run, seen, session_row, set_hedge, set_row,
)

GARDEN = drawing(2, 2, [0, 1, 0, 0])
SESSION = session_row(GARDEN, 0, [go_row(1)], [set_row(1, 0)])
LINES = (
    [begin(drawing(1, 1))],
    [begin(GARDEN), go(1), set_hedge(0, 1), UNDO],
    [begin(drawing(2, 1)), go(1), set_hedge(0, 1)],
    [load(SESSION)],
    [load(SESSION), REDO, go(3)],
    [play(journal_row(SESSION, [go_row(2), go_row(3)])), UNDO],
    [play(journal_row(SESSION, [go_row(2), go_row(3)])), HEAD, UNDO],
    [begin(drawing(2, 1))] + [go(1), go(3)] * 100,
)


class NoSession(Case):
    def test_before_begin_load_or_play(self):
        for question in QUESTIONS:
            self.assertEqual(run(question), [[-10]])
            for start in (begin(GARDEN), load(SESSION), play(head_row(SESSION))):
                told = run(question, question, start, question)
                self.assertEqual(told[:2], [[-10], [-10]])
                self.assertEqual([answer[0] for answer in told[2:]], [0, 0])

    def test_behind_what_was_refused(self):
        for refused in (begin([]), begin(GARDEN, 4), begin([0] * 1025), load([]), load(head_row(SESSION)), play([]),
                        play(SESSION), go(0), UNDO):
            self.assertEqual(run(refused, *QUESTIONS)[1:], [[-10]] * 6)

    def test_nothing_is_held_behind_it(self):
        for question in QUESTIONS:
            self.assertIsNone(held_behind(question))


class NothingIsChanged(Case):
    def test_by_none_but_head(self):
        for calls in LINES:
            for question in (DRAWN, COUNTS, HOME, TRAIL, SAVE):
                self.assertEqual(held_behind(*calls, question), held_behind(*calls))
                self.assertEqual(run(*calls, question, *QUESTIONS)[-6:], run(*calls, *QUESTIONS)[-6:])
                for change in (UNDO, REDO, go(0), go(1), go(2), go(3), set_hedge(0, 1), set_hedge(9, 1)):
                    self.assertEqual(run(*calls, question, change)[-1], run(*calls, change)[-1])

    def test_by_head_nothing_but_the_journal(self):
        for calls in LINES:
            self.assertEqual(seen(held_behind(*calls, HEAD)), seen(held_behind(*calls)))
            self.assertEqual(run(*calls, HEAD, *QUESTIONS)[-6:], run(*calls, *QUESTIONS)[-6:])
            for change in (UNDO, REDO, go(0), go(1), go(2), go(3), set_hedge(0, 1), set_hedge(9, 1)):
                behind = run(*calls, HEAD, change, *QUESTIONS)[-7:]
                without = run(*calls, change, *QUESTIONS)[-7:]
                self.assertEqual(behind[1:], without[1:])
                self.assertEqual(behind[0][:9], without[0][:9])

    def test_asked_twice_they_answer_the_same(self):
        for calls in LINES:
            for question in QUESTIONS:
                told = run(*calls, question, question)
                self.assertEqual(told[-1], told[-2])


class TakenBackAndDoneAgain(Case):
    """I3, by what the calls answer."""

    STEPS = (go(1), set_hedge(1, 0), go(2), set_hedge(0, 1), set_hedge(0, 1), go(3), go(0), set_hedge(0, 0))

    def test_as_before_and_as_behind(self):
        start = begin(GARDEN)
        asked = (DRAWN, HOME, TRAIL, COUNTS)
        before = run(start, *asked)[1:]
        for size in range(1, len(self.STEPS) + 1):
            calls = [start, *self.STEPS[:size]]
            behind = run(*calls, *asked)[-4:]
            back = run(*calls, UNDO, *asked)[-4:]
            self.assertEqual(back[:3], before[:3])
            # One more may be done again, and nothing else is another.
            self.assertEqual(back[3], before[3][:-1] + [1])
            self.assertEqual(run(*calls, UNDO, REDO, *asked)[-4:], behind)
            self.assertEqual(run(*calls, UNDO, REDO, SAVE)[-1], run(*calls, SAVE)[-1])
            before = behind

    def test_all_taken_back_and_all_done_again(self):
        size = len(self.STEPS)
        calls = [begin(GARDEN), *self.STEPS]
        asked = (DRAWN, HOME, TRAIL, SAVE)
        self.assertEqual(run(*calls, *[UNDO] * size, *asked)[-4:-1], run(calls[0], *asked)[1:4])
        self.assertEqual(run(*calls, *[UNDO] * size, *[REDO] * size, *asked)[-4:], run(*calls, *asked)[-4:])


class SetAndGo(Case):
    """I1, by what the calls answer."""

    def test_a_hedge_set_leaves_the_others_and_the_walker(self):
        for square in range(4):
            for p in range(4):
                for z in (0, 1):
                    hedges = [0, 1, 0, 0]
                    hedges[p] = z
                    told = run(begin(GARDEN, square), set_hedge(p, z), DRAWN, TRAIL, COUNTS)
                    self.assertEqual(told[2][1:], drawing(2, 2, hedges))
                    self.assertEqual(told[3][1:], [square])
                    self.assertEqual(told[4][6], square)

    def test_the_walker_goes_through_passages_alone(self):
        beyond = {(0, 1): 1, (0, 2): 2, (1, 2): 3, (1, 3): 0, (2, 0): 0, (3, 0): 1}
        for square in range(4):
            for k in range(4):
                told = run(begin(GARDEN, square), go(k), COUNTS, DRAWN)
                expected = beyond.get((square, k))
                self.assertEqual(told[1][0], -4 if expected is None else 0)
                self.assertEqual(told[2][6], square if expected is None else expected)
                self.assertEqual(told[3][1:], GARDEN)


if __name__ == "__main__":
    unittest.main()

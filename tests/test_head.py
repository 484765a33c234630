"""head: a journal begun anew, the notes behind it, and play of them."""

import random
import unittest

from helper import (
    COUNTS, DRAWN, HEAD, HOME, REDO, REDO_ROW, SAVE, TRAIL, UNDO, UNDO_ROW, Case, begin, drawing, four, go, go_row,
    head_row, held_behind, inner_sides, journal_row, load, note_rows, play, run, seen, session_row, set_hedge, set_row,
    told_behind,
)

GARDEN = drawing(3, 2, [0, 1, 0, 0, 0, 0, 0])
BEFORE = [begin(GARDEN, 4), go(0), set_hedge(1, 0), go(1), UNDO]
BEFORE_ROW = session_row(GARDEN, 4, [go_row(0), set_row(1, 0)], [go_row(1)])
BEHIND = [REDO, go(2), UNDO, UNDO, set_hedge(3, 1), go(3)]
CHANGES = [REDO_ROW, go_row(2), UNDO_ROW, UNDO_ROW, set_row(3, 1), go_row(3)]
TELLING = (DRAWN, COUNTS, HOME, TRAIL, SAVE)


def journal_of(told):
    """The bytes that head and the changes behind it answered."""
    return [byte for answer in told for byte in answer[1:]]


class Beginning(Case):
    def test_written_out(self):
        session = session_row(drawing(1, 1))
        self.assertEqual(run(begin(drawing(1, 1)), HEAD)[1], [0, 0x4D, 0x5A, 0x4A, 0x31, 34, 0, 0, 0] + session)

    def test_sizes_open_and_grown_over(self):
        for wide, high in ((1, 1), (1, 10), (10, 1), (10, 10)):
            for hedge in (0, 1):
                garden = drawing(wide, high, [hedge] * len(inner_sides(wide, high)))
                square = wide * high - 1
                self.assertEqual(told_behind([begin(garden, square)], HEAD), head_row(session_row(garden, square)))

    def test_of_what_save_answers(self):
        told = run(*BEFORE, SAVE, HEAD)
        self.assertEqual(told[-2][1:], BEFORE_ROW)
        self.assertEqual(told[-1][1:], [0x4D, 0x5A, 0x4A, 0x31] + four(len(BEFORE_ROW)) + BEFORE_ROW)

    def test_the_steps_taken_back_stand_in_it(self):
        garden = drawing(2, 2)
        steps = [go_row(1), go_row(2), set_row(0, 1)]
        for back in range(4):
            calls = [begin(garden), go(1), go(2), set_hedge(0, 1)] + [UNDO] * back
            head = told_behind(calls, HEAD)
            self.assertEqual(head, head_row(session_row(garden, 0, steps[:3 - back], steps[3 - back:])))
            self.assertEqual(run(play(head), *[REDO] * back, REDO)[-1], [-5])
            self.assertEqual(run(play(head), *[REDO] * back, SAVE)[-1], [0] + session_row(garden, 0, steps))


class BegunAnew(Case):
    def test_notes_have_the_sum_of_this_beginning(self):
        told = run(*BEFORE, HEAD, *BEHIND)[len(BEFORE):]
        self.assertEqual(told[0], [0] + head_row(BEFORE_ROW))
        self.assertEqual(told[1:], [[0] + note for note in note_rows(head_row(BEFORE_ROW), CHANGES)])

    def test_without_head_they_have_that_of_the_one_before(self):
        changes = [go_row(0), set_row(1, 0), go_row(1), UNDO_ROW] + CHANGES
        notes = note_rows(head_row(session_row(GARDEN, 4)), changes)
        self.assertEqual(run(*BEFORE, *BEHIND)[1:], [[0] + note for note in notes])

    def test_played_it_comes_to_the_session(self):
        journal = journal_of(run(*BEFORE, HEAD, *BEHIND)[len(BEFORE):])
        size = len(head_row(BEFORE_ROW))
        self.assertEqual(run(play(journal))[0], [0, 6, size + 72])
        self.assertEqual(held_behind(play(journal)), held_behind(*BEFORE, HEAD, *BEHIND))
        self.assertEqual(run(play(journal), *TELLING)[1:], run(*BEFORE, HEAD, *BEHIND, *TELLING)[-5:])

    def test_torn_at_each_byte(self):
        journal = journal_of(run(*BEFORE, HEAD, *BEHIND)[len(BEFORE):])
        size = len(head_row(BEFORE_ROW))
        for end in range(len(journal) + 1):
            told = run(play(journal[:end]), *TELLING)
            played = (end - size) // 12
            if end < size:
                self.assertEqual(told, [[-9]] + [[-10]] * 5)
            else:
                self.assertEqual(told[0], [0, played, size + 12 * played])
                self.assertEqual(told[1:], run(*BEFORE, *BEHIND[:played], *TELLING)[-5:])

    def test_notes_of_the_journal_before_are_not_played_behind_it(self):
        told = run(*BEFORE, REDO, HEAD)
        mixed = told[-1][1:] + told[-2][1:]
        self.assertEqual(run(play(mixed)), [[0, 0, len(mixed) - 12]])

    def test_notes_behind_it_are_not_played_behind_the_one_before(self):
        start = head_row(session_row(GARDEN, 4))
        told = run(*BEFORE, HEAD, *BEHIND)
        mixed = start + journal_of(told[1:len(BEFORE)]) + journal_of(told[len(BEFORE) + 1:])
        self.assertEqual(run(play(mixed)), [[0, 4, len(start) + 48]])

    def test_head_behind_head(self):
        told = run(*BEFORE, HEAD, HEAD, REDO, HEAD, HEAD, UNDO)[len(BEFORE):]
        self.assertEqual(told[0], told[1])
        self.assertEqual(told[3], told[4])
        self.assertNotEqual(told[0], told[3])
        self.assertEqual(told[2][1:], note_rows(told[1][1:], [REDO_ROW])[0])
        self.assertEqual(told[5][1:], note_rows(told[4][1:], [UNDO_ROW])[0])

    def test_behind_begin_and_load_it_is_their_journal(self):
        self.assertEqual(run(begin(GARDEN, 4), HEAD, go(0))[-1], run(begin(GARDEN, 4), go(0))[-1])
        self.assertEqual(held_behind(begin(GARDEN, 4), HEAD), held_behind(begin(GARDEN, 4)))
        self.assertEqual(held_behind(load(BEFORE_ROW), HEAD), held_behind(load(BEFORE_ROW)))

    def test_begin_and_load_behind_it_begin_their_own(self):
        self.assertEqual(run(*BEFORE, HEAD, begin(GARDEN, 4), go(0))[-1], run(begin(GARDEN, 4), go(0))[-1])
        self.assertEqual(run(*BEFORE, HEAD, load(BEFORE_ROW), REDO)[-1], run(load(BEFORE_ROW), REDO)[-1])
        refused = [begin([]), load([]), play([]), go(4), set_hedge(9, 1)]
        self.assertEqual(run(*BEFORE, HEAD, *refused, REDO)[-1], run(*BEFORE, HEAD, REDO)[-1])


class BehindPlay(Case):
    JOURNAL = journal_row(BEFORE_ROW, CHANGES)

    def test_it_begins_from_what_was_played(self):
        for kept in range(7):
            torn = self.JOURNAL[:len(self.JOURNAL) - 12 * (6 - kept)] + [1, 2, 3]
            now = told_behind([load(BEFORE_ROW)] + BEHIND[:kept], SAVE)
            told = run(play(torn), HEAD, *BEHIND[kept:])
            self.assertEqual(told[1][1:], head_row(now))
            self.assertEqual(told[2:], [[0] + note for note in note_rows(head_row(now), CHANGES[kept:])])
            again = journal_of(told[1:])
            self.assertEqual(run(play(again))[0], [0, 6 - kept, len(again)])
            self.assertEqual(seen(held_behind(play(again))), seen(held_behind(play(self.JOURNAL))))

    def test_played_behind_head_it_goes_on_with_what_was_played(self):
        told = run(*BEFORE, HEAD, play(self.JOURNAL), UNDO)
        self.assertEqual(told[-1][1:], note_rows(head_row(BEFORE_ROW), CHANGES + [UNDO_ROW])[-1])


class Long(Case):
    def test_200_steps(self):
        garden = drawing(10, 10)
        calls = [begin(garden)] + [go(1), go(2), go(3), go(0)] * 50
        steps = [go_row(1), go_row(2), go_row(3), go_row(0)] * 50
        self.assertEqual(told_behind(calls, HEAD), head_row(session_row(garden, 0, steps)))
        told = run(*calls, HEAD, go(1), UNDO, UNDO, set_hedge(0, 1), go(0), REDO)[len(calls):]
        self.assertEqual([answer[0] for answer in told], [0, -3, 0, 0, 0, 0, -5])
        journal = journal_of(told)
        self.assertEqual(run(play(journal))[0], [0, 4, len(journal)])
        self.assertEqual(told_behind([play(journal)], COUNTS)[-3:], [1, 200, 0])

    def test_200_steps_behind_it(self):
        calls = [begin(drawing(2, 1)), HEAD] + [go(1), go(3)] * 100
        journal = journal_of(run(*calls))
        self.assertEqual(run(play(journal))[0], [0, 200, len(journal)])
        self.assertEqual(run(play(journal), *TELLING)[1:], run(*calls, *TELLING)[-5:])

    def test_random_lines(self):
        chance = random.Random(14)
        for _ in range(40):
            wide, high = chance.randint(1, 4), chance.randint(1, 4)
            garden = drawing(wide, high, [chance.randrange(2) for _ in inner_sides(wide, high)])
            calls = [begin(garden, chance.randrange(wide * high))]
            for _ in range(60):
                calls.append(chance.choice((set_hedge(chance.randrange(24), chance.randrange(2)), go(chance.randrange(4)),
                                            go(chance.randrange(4)), UNDO, UNDO, REDO)))
            place = chance.randrange(1, 61)
            calls.insert(place, HEAD)
            told = run(*calls)[place:]
            journal = journal_of(told)
            noted = sum(answer[0] == 0 for answer in told) - 1
            self.assertEqual(run(play(journal))[0], [0, noted, len(journal)])
            self.assertEqual(held_behind(play(journal)), held_behind(*calls))


if __name__ == "__main__":
    unittest.main()

"""play: journals whole and torn, wrong notes, and how a journal goes on."""

import unittest

from helper import (
    LARGEST, REDO, REDO_ROW, UNDO, UNDO_ROW, Case, begin, change_row, crc, drawing, firsts, four, go, go_row, head_row,
    held_behind, journal_row, load, note_rows, play, run, seen, session_row, set_hedge, set_row, summed,
)

GARDEN = drawing(3, 2, [0, 1, 0, 0, 0, 0, 0])
SESSION = session_row(GARDEN, 4, [go_row(0)], [set_row(3, 1)])
HEAD = head_row(SESSION)
CALLS = [REDO, UNDO, go(2), set_hedge(1, 0), go(1), UNDO, REDO, go(0), UNDO, UNDO, set_hedge(6, 1)]
CHANGES = [REDO_ROW, UNDO_ROW, go_row(2), set_row(1, 0), go_row(1), UNDO_ROW, REDO_ROW, go_row(0), UNDO_ROW, UNDO_ROW,
           set_row(6, 1)]
NOTES = note_rows(HEAD, CHANGES)
WHOLE = journal_row(SESSION, CHANGES)


class Whole(Case):
    def test_it_comes_to_the_session(self):
        self.assertEqual(firsts(load(SESSION), *CALLS), [0] * 12)
        self.assertEqual(run(play(WHOLE)), [[0, 11, len(WHOLE)]])
        self.assertEqual(held_behind(play(WHOLE)), held_behind(load(SESSION), *CALLS))

    def test_what_the_calls_answered_is_played(self):
        told = run(load(SESSION), *CALLS)
        journal = HEAD + [byte for answer in told[1:] for byte in answer[1:]]
        self.assertEqual(journal, WHOLE)

    def test_a_beginning_alone(self):
        self.assertEqual(run(play(HEAD)), [[0, 0, len(HEAD)]])
        self.assertEqual(held_behind(play(HEAD)), held_behind(load(SESSION)))

    def test_the_smallest_journal(self):
        head = head_row(session_row(drawing(1, 1)))
        self.assertEqual(run(play(head)), [[0, 0, 42]])
        self.assertEqual(held_behind(play(head)), held_behind(begin(drawing(1, 1))))

    def test_each_size_of_garden(self):
        for wide, high, changes in ((1, 10, [go_row(2), set_row(8, 1)]), (10, 1, [go_row(1), set_row(8, 1)]),
                                    (10, 10, [go_row(1), set_row(179, 1)])):
            row = journal_row(session_row(drawing(wide, high)), changes)
            self.assertEqual(run(play(row)), [[0, 2, len(row)]])


class Torn(Case):
    def test_at_each_byte(self):
        states = [held_behind(load(SESSION), *CALLS[:size]) for size in range(len(CALLS) + 1)]
        for size in range(len(WHOLE) + 1):
            told = run(play(WHOLE[:size]))
            if size < len(HEAD):
                self.assertEqual(told, [[-9]])
                self.assertIsNone(held_behind(play(WHOLE[:size])))
            else:
                played = (size - len(HEAD)) // 12
                self.assertEqual(told, [[0, played, len(HEAD) + 12 * played]])
                self.assertEqual(held_behind(play(WHOLE[:size])), states[played])

    def test_each_byte_wrong(self):
        for place in range(len(WHOLE)):
            for other in (WHOLE[place] ^ 1, WHOLE[place] ^ 128, 255 - WHOLE[place]):
                told = run(play(WHOLE[:place] + [other] + WHOLE[place + 1:]))
                if place < len(HEAD):
                    self.assertEqual(told, [[-9]])
                else:
                    played = (place - len(HEAD)) // 12
                    self.assertEqual(told, [[0, played, len(HEAD) + 12 * played]])

    def test_a_note_left_out_doubled_or_moved(self):
        def played(notes):
            return run(play(HEAD + [byte for note in notes for byte in note]))[0][1]

        for place in range(len(NOTES)):
            self.assertEqual(played(NOTES[:place] + NOTES[place + 1:]), place)
            self.assertEqual(played(NOTES[:place + 1] + NOTES[place:]), place + 1)
        self.assertEqual(played([NOTES[1], NOTES[0]] + NOTES[2:]), 0)

    def test_bytes_behind_are_not_looked_at(self):
        for more in ([0], [255] * 11, [0] * 12, [1] * 500, HEAD):
            self.assertEqual(run(play(WHOLE + more)), [[0, 11, len(WHOLE)]])
            self.assertEqual(held_behind(play(WHOLE + more)), held_behind(play(WHOLE)))


class Sums(Case):
    def played(self, *twelves):
        return run(play(HEAD + [byte for twelve in twelves for byte in twelve]))[0][1]

    def test_sums_that_are_none(self):
        step = set_row(0, 1)
        self.assertEqual(self.played(step + four(crc(HEAD + step))), 1)
        self.assertEqual(self.played(step + four(crc(step))), 0)
        self.assertEqual(self.played(step + four(crc(SESSION + step))), 0)
        self.assertEqual(self.played(step + four(crc(HEAD))), 0)
        self.assertEqual(self.played(step + four(crc(HEAD + step))[::-1]), 0)
        self.assertEqual(self.played(step + four(crc(HEAD + step) ^ LARGEST)), 0)
        first = step + four(crc(HEAD + step))
        self.assertEqual(self.played(first, step + four(crc(HEAD + step + step))), 2)
        self.assertEqual(self.played(first, step + four(crc(HEAD + first + step))), 1)


class CannotBeDone(Case):
    def check(self, session, good, wrong, behind=(set_row(0, 1), UNDO_ROW)):
        head = head_row(session)
        row = journal_row(session, list(good) + [wrong] + list(behind))
        self.assertEqual(run(play(row)), [[0, len(good), len(head) + 12 * len(good)]], wrong)
        whole = journal_row(session, good)
        self.assertEqual(held_behind(play(row)), held_behind(play(whole)))

    def test_steps(self):
        for wrong in (set_row(7, 1), set_row(65535, 0), set_row(256, 1), set_row(0, 2), set_row(0, 256), go_row(0),
                      go_row(1), go_row(4), go_row(256), go_row(65535)):
            self.check(SESSION, [], wrong)
            self.check(SESSION, [set_row(0, 0), UNDO_ROW], wrong)

    def test_nothing_to_take_back_or_do_again(self):
        self.check(SESSION, [UNDO_ROW], UNDO_ROW)
        self.check(SESSION, [REDO_ROW], REDO_ROW)
        self.check(SESSION, [set_row(0, 1)], REDO_ROW)
        self.check(session_row(GARDEN), [], UNDO_ROW)
        self.check(session_row(GARDEN), [], REDO_ROW)

    def test_no_change_at_all(self):
        for wrong in (change_row(4), change_row(5), change_row(255), change_row(1, 3, 1), change_row(1, 3, 256),
                      change_row(2, 1), change_row(2, 256), change_row(2, 0, 1), change_row(3, 1), change_row(3, 0, 256),
                      [0, 1, 0, 0, 0, 0, 0, 0], [0, 0, 0, 0, 0, 0, 1, 0], [0, 0, 0, 0, 0, 0, 0, 1],
                      [1, 1, 3, 0, 0, 0, 0, 0], [1, 0, 3, 0, 0, 0, 1, 0], [1, 0, 3, 0, 0, 0, 0, 1],
                      [2, 1, 0, 0, 0, 0, 0, 0], [2, 0, 0, 0, 0, 0, 0, 1], [3, 1, 0, 0, 0, 0, 0, 0],
                      [3, 0, 0, 0, 0, 0, 1, 0]):
            self.check(SESSION, [], wrong)
            self.check(SESSION, [go_row(3), UNDO_ROW], wrong)

    def test_the_step_behind_200(self):
        steps = [set_row(0, 1)] * 200
        self.check(session_row(GARDEN), steps, set_row(0, 1))
        self.check(session_row(GARDEN), steps, go_row(2))
        self.check(session_row(GARDEN, 0, steps), [], set_row(0, 0))
        self.check(session_row(GARDEN, 0, steps), [UNDO_ROW, REDO_ROW, UNDO_ROW, go_row(2)], set_row(0, 0))


class NoBeginning(Case):
    def refuse(self, row):
        self.assertEqual(run(play(row)), [[-9]])

    def test_how_many_bytes(self):
        for byte in (0, 77, 255):
            self.assertEqual(run(play([byte] * 16384)), [[-9]])
            self.assertEqual(run(play([byte] * 16385)), [[-2]])
            self.assertEqual(run(play([byte] * 16500)), [[-2]])
        self.assertEqual(run(play(WHOLE + [0] * (16384 - len(WHOLE)))), [[0, 11, len(WHOLE)]])
        self.assertEqual(run(play(WHOLE + [0] * (16385 - len(WHOLE)))), [[-2]])

    def test_a_journal_as_long_as_may_be(self):
        row = journal_row(SESSION, [UNDO_ROW, REDO_ROW] * 700)
        notes = (16384 - len(HEAD)) // 12
        self.assertEqual(run(play(row[:16384])), [[0, notes, len(HEAD) + 12 * notes]])
        self.assertEqual(run(play(row[:16385])), [[-2]])

    def test_first_bytes(self):
        for mark in ([0x4D, 0x5A, 0x53, 0x31], [0x4D, 0x5A, 0x4A, 0x32], [0x4D, 0x4A, 0x5A, 0x31], [0] * 4):
            for more in ([], [0], NOTES[0]):
                self.refuse(mark + HEAD[4:] + more)

    def test_lengths(self):
        for size in (0, 1, 22, len(SESSION) - 1, len(SESSION) + 1, len(SESSION) + 12, len(WHOLE), 65536, LARGEST):
            for journal in (HEAD, HEAD + [0], WHOLE):
                self.refuse(HEAD[:4] + four(size) + journal[8:])

    def test_no_right_session(self):
        for session in ([], SESSION[:-1], SESSION + [0], summed(SESSION), session_row(GARDEN, 6),
                        session_row(GARDEN[:-1]), session_row(GARDEN, 0, [go_row(0)]),
                        session_row(GARDEN, 0, [set_row(0, 1)] * 201)):
            self.refuse(head_row(session))
            self.refuse(journal_row(session, [set_row(0, 1)]))

    def test_a_session_is_no_journal(self):
        self.refuse(SESSION)
        self.refuse([])

    def test_all_is_as_it_was(self):
        before = [play(WHOLE), UNDO, UNDO]
        for refused in (play([]), play(HEAD[:-1]), play(SESSION), play([0] * 16385), play(WHOLE + [0] * 16200)):
            self.assertLess(firsts(refused)[0], 0)
            self.assertEqual(held_behind(*before, refused), held_behind(*before))
            self.assertEqual(run(*before, refused, REDO)[-1], run(*before, REDO)[-1])
            self.assertEqual(run(refused, UNDO), [run(refused)[0], [-10]])


class GoesOn(Case):
    def test_behind_play(self):
        for kept in range(len(CALLS) + 1):
            torn = WHOLE[:len(HEAD) + 12 * kept + 5]
            told = run(play(torn), *CALLS[kept:])
            self.assertEqual(told[1:], [[0] + note for note in NOTES[kept:]])

    def test_behind_a_wrong_note_other_notes(self):
        wrong = journal_row(SESSION, CHANGES[:3] + [go_row(0), go_row(0), go_row(0), set_row(0, 1)])
        played = run(play(wrong))[0]
        self.assertEqual(played[1], 4)
        notes = [answer[1:] for answer in run(play(wrong), set_hedge(2, 1), go(2), UNDO)[1:]]
        row = wrong[:played[2]] + notes[0] + notes[1] + notes[2]
        self.assertEqual(run(play(row)), [[0, 7, len(row)]])
        self.assertEqual(held_behind(play(row)), held_behind(play(wrong), set_hedge(2, 1), go(2), UNDO))

    def test_behind_play_and_play_again(self):
        first = run(play(WHOLE), UNDO)[1][1:]
        row = WHOLE + first
        second = run(play(row), REDO)[1][1:]
        self.assertEqual(run(play(row + second)), [[0, 13, len(row) + 12]])
        self.assertEqual(seen(held_behind(play(row + second))), seen(held_behind(play(WHOLE))))

    def test_behind_load(self):
        told = run(play(WHOLE), load(SESSION), *CALLS)
        self.assertEqual(told[2:], [[0] + note for note in NOTES])

    def test_behind_begin(self):
        head = head_row(session_row(GARDEN, 4))
        told = run(play(WHOLE), begin(GARDEN, 4), go(0), UNDO)
        self.assertEqual(told[2:], [[0] + note for note in note_rows(head, [go_row(0), UNDO_ROW])])

    def test_refusals_are_not_noted(self):
        told = run(load(SESSION), REDO, REDO, go(4), set_hedge(0, 2), UNDO, go(1), go(2))
        self.assertEqual([answer[1:] for answer in told if len(answer) > 1], NOTES[:3])


if __name__ == "__main__":
    unittest.main()

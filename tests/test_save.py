"""save: the session's bytes, and load of them."""

import random
import unittest

from helper import (
    COUNTS, DRAWN, HOME, REDO, SAVE, TRAIL, UNDO, Case, begin, drawing, go, go_row, head_row, held_behind, inner_sides,
    journal_row, load, note_rows, play, run, seen, session_row, set_hedge, set_row, summed, text_bytes, told_behind,
)

TELLING = (DRAWN, COUNTS, HOME, TRAIL, SAVE)


class Bytes(Case):
    def test_the_smallest_session_written_out(self):
        row = [0x4D, 0x5A, 0x53, 0x31, 12, 0, 0, 0] + text_bytes("+-+\n| |\n+-+\n") + [0] * 10
        self.assertEqual(run(begin(drawing(1, 1)), SAVE)[1], [0] + summed(row))

    def test_a_session_written_out(self):
        calls = [begin(drawing(3, 2), 4), go(0), set_hedge(6, 1), go(3), set_hedge(0, 1), UNDO, UNDO]
        row = [0x4D, 0x5A, 0x53, 0x31, 40, 0, 0, 0] + drawing(3, 2) + [4, 0, 2, 0, 0, 0, 2, 0, 0, 0]
        row += [1, 0, 0, 0, 0, 0, 0, 0] + [0, 0, 6, 0, 1, 0, 0, 0]
        row += [1, 0, 3, 0, 0, 0, 0, 0] + [0, 0, 0, 0, 1, 0, 0, 0]
        self.assertEqual(told_behind(calls, SAVE), summed(row))

    def test_sizes_open_and_grown_over(self):
        for wide, high in ((1, 1), (1, 10), (10, 1), (10, 10)):
            for hedge in (0, 1):
                garden = drawing(wide, high, [hedge] * len(inner_sides(wide, high)))
                for square in (0, wide * high - 1):
                    self.assertEqual(told_behind([begin(garden, square)], SAVE), session_row(garden, square))

    def test_the_garden_at_first_not_as_it_stands(self):
        garden = drawing(2, 2)
        self.assertEqual(told_behind([begin(garden), set_hedge(3, 1)], SAVE), session_row(garden, 0, [set_row(3, 1)]))

    def test_the_first_square_not_the_walkers(self):
        garden = drawing(2, 2)
        self.assertEqual(told_behind([begin(garden, 3), go(0)], SAVE), session_row(garden, 3, [go_row(0)]))

    def test_taken_back_in_the_order_they_would_be_done_again(self):
        garden = drawing(2, 2)
        calls = [begin(garden), go(1), go(2), set_hedge(0, 1), go(3)]
        steps = [go_row(1), go_row(2), set_row(0, 1), go_row(3)]
        for back in range(5):
            expected = session_row(garden, 0, steps[:4 - back], steps[4 - back:])
            self.assertEqual(told_behind(calls + [UNDO] * back, SAVE), expected)
            expected = session_row(garden, 0, steps[:back], steps[back:])
            self.assertEqual(told_behind(calls + [UNDO] * 4 + [REDO] * back, SAVE), expected)

    def test_what_a_step_forgot_is_not_there(self):
        garden = drawing(2, 2)
        calls = [begin(garden), go(1), go(2), UNDO, UNDO, go(2)]
        self.assertEqual(told_behind(calls, SAVE), session_row(garden, 0, [go_row(2)]))

    def test_the_highest_numbers(self):
        garden = drawing(10, 10)
        calls = [begin(garden, 99), set_hedge(179, 1), set_hedge(178, 0)]
        self.assertEqual(told_behind(calls, SAVE), session_row(garden, 99, [set_row(179, 1), set_row(178, 0)]))

    def test_200_steps(self):
        garden = drawing(10, 10)
        calls = [begin(garden)] + [set_hedge(p, 1) for p in range(180)] + [set_hedge(p, 0) for p in range(20)]
        steps = [set_row(p, 1) for p in range(180)] + [set_row(p, 0) for p in range(20)]
        for back in (0, 1, 100, 199):
            row = told_behind(calls + [UNDO] * back, SAVE)
            self.assertEqual(row, session_row(garden, 0, steps[:200 - back], steps[200 - back:]))
            self.assertEqual(len(row), 22 + 462 + 1600)
            self.assertEqual(run(load(row), SAVE), [[0], [0] + row])


class AndLoad(Case):
    def test_saved_loaded_and_saved_again(self):
        chance = random.Random(12)
        for _ in range(80):
            calls = random_calls(chance)
            row = told_behind(calls, SAVE)
            told = run(*calls, *TELLING)[-5:]
            self.assertEqual(run(load(row), *TELLING)[1:], told)
            self.assertEqual(run(*calls, SAVE, load(row), *TELLING)[-5:], told)
            self.assertEqual(seen(held_behind(load(row))), seen(held_behind(*calls)))

    def test_loaded_it_goes_on_alike(self):
        chance = random.Random(13)
        for _ in range(40):
            calls = random_calls(chance)
            row = told_behind(calls, SAVE)
            more = random_calls(chance)[1:]
            by_calls = run(*calls, *more, *TELLING)[len(calls):]
            by_bytes = run(load(row), *more, *TELLING)[1:]
            # The sums of the notes differ, as the journals began elsewhere.
            self.assertEqual([answer[:9] for answer in by_bytes[:-5]], [answer[:9] for answer in by_calls[:-5]])
            self.assertEqual(by_bytes[-5:], by_calls[-5:])

    def test_what_is_loaded_is_saved(self):
        garden = drawing(3, 2, [0, 1, 0, 0, 1, 0, 0])
        steps = [set_row(1, 0), go_row(1), go_row(2), set_row(2, 1), go_row(3)]
        for done in range(6):
            row = session_row(garden, 1, steps[:done], steps[done:])
            self.assertEqual(run(load(row), SAVE), [[0], [0] + row])

    def test_a_refused_load_leaves_what_is_saved(self):
        calls = [begin(drawing(2, 2)), go(1), UNDO]
        row = told_behind(calls, SAVE)
        self.assertEqual(run(*calls, load(row[:-1]), play(row), begin([]), SAVE)[-4:], [[-9], [-9], [-6], [0] + row])

    def test_sessions_that_differ_have_other_bytes(self):
        garden = drawing(2, 2)
        lines = [[begin(garden)], [begin(garden, 1)], [begin(drawing(2, 2, [1, 0, 0, 0]))],
                 [begin(garden), set_hedge(0, 1)], [begin(garden), set_hedge(0, 0)], [begin(garden), set_hedge(0, 1), UNDO],
                 [begin(garden), go(1)], [begin(garden), go(1), UNDO], [begin(garden), go(1), go(3)],
                 [begin(garden), go(2), go(0)], [begin(garden), go(1), set_hedge(3, 1)],
                 [begin(garden), set_hedge(3, 1), go(1)]]
        rows = [tuple(told_behind(calls, SAVE)) for calls in lines]
        self.assertEqual(len(set(rows)), len(rows))

    def test_the_same_session_by_other_calls(self):
        garden = drawing(2, 2)
        row = told_behind([begin(garden), go(1), go(2)], SAVE)
        for calls in ([begin(garden), go(1), go(2), UNDO, REDO], [begin(garden), go(2), UNDO, go(1), go(2)],
                      [begin(garden), go(1), go(4), go(2), REDO], [load(session_row(garden, 0, [go_row(1)])), go(2)],
                      [play(journal_row(session_row(garden), [go_row(1), go_row(2)]))]):
            self.assertEqual(told_behind(calls, SAVE), row)


class Journal(Case):
    def test_save_begins_no_journal(self):
        garden = drawing(2, 2)
        notes = note_rows(head_row(session_row(garden)), [go_row(1), go_row(2)])
        self.assertEqual(run(begin(garden), go(1), SAVE, go(2))[1::2], [[0] + note for note in notes])


def random_calls(chance):
    wide, high = chance.randint(1, 4), chance.randint(1, 4)
    garden = drawing(wide, high, [chance.randrange(2) for _ in inner_sides(wide, high)])
    calls = [begin(garden, chance.randrange(wide * high))]
    for _ in range(30):
        calls.append(chance.choice((set_hedge(chance.randrange(24), chance.randrange(2)), go(chance.randrange(4)),
                                    go(chance.randrange(4)), UNDO, UNDO, REDO)))
    return calls


if __name__ == "__main__":
    unittest.main()

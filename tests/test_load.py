"""load: a session's bytes, right and wrong in each of their parts."""

import random
import unittest

import helper
from helper import (
    LARGEST, REDO, REDO_ROW, UNDO, UNDO_ROW, Case, begin, change_row, drawing, firsts, four, go, go_row, head_row, held,
    held_behind, inner_sides, load, note_rows, record_behind, run, seen, session_row, set_hedge, set_row, summed,
)
from hedgerecord.writing import read_session, session_bytes

GARDEN = drawing(2, 2, [0, 1, 0, 0])
STEPS = [go_row(1), set_row(1, 0), go_row(2), go_row(3), set_row(0, 1)]
RIGHT = session_row(GARDEN, 0, STEPS[:3], STEPS[3:])


class Right(Case):
    def test_a_session_written_out(self):
        row = [0x4D, 0x5A, 0x53, 0x31, 12, 0, 0, 0] + helper.text_bytes("+-+\n| |\n+-+\n") + [0] * 10
        self.assertEqual(run(load(summed(row))), [[0]])
        self.assertEqual(seen(held_behind(load(summed(row)))), seen(held_behind(begin(drawing(1, 1)))))

    def test_it_holds_this_session(self):
        calls = [begin(GARDEN), go(1), set_hedge(1, 0), go(2), go(3), set_hedge(0, 1)]
        for back in range(len(STEPS) + 1):
            done = len(STEPS) - back
            row = session_row(GARDEN, 0, STEPS[:done], STEPS[done:])
            self.assertEqual(run(load(row)), [[0]])
            self.assertEqual(seen(held_behind(load(row))), seen(held_behind(*calls, *[UNDO] * back)))

    def test_redo_goes_in_the_order_written(self):
        told = firsts(load(RIGHT), REDO, go(0), UNDO, UNDO, REDO, REDO, REDO)
        self.assertEqual(told, [0, 0, 0, 0, 0, 0, 0, -5])
        told = firsts(load(RIGHT), REDO, REDO, REDO, go(1), go(0), go(3))
        self.assertEqual(told, [0, 0, 0, -5, 0, 0, -4])

    def test_sizes_and_squares(self):
        for wide, high in ((1, 1), (1, 10), (10, 1), (10, 10)):
            for hedge in (0, 1):
                garden = drawing(wide, high, [hedge] * len(inner_sides(wide, high)))
                for square in (0, wide * high - 1):
                    row = session_row(garden, square)
                    self.assertEqual(seen(held_behind(load(row))), seen(held_behind(begin(garden, square))))

    def test_up_to_200_steps(self):
        steps = [set_row(0, 1), set_row(0, 0)] * 100
        for done in (0, 1, 100, 150, 199, 200):
            row = session_row(GARDEN, 3, steps[:done], steps[done:])
            state = held_behind(load(row))
            self.assertEqual((len(state["done"]), len(state["taken"])), (done, 200 - done))
            self.assertEqual(firsts(load(row), *[REDO] * (200 - done), REDO, set_hedge(0, 0))[-2:], [-5, -3])
            self.assertEqual(firsts(load(row), *[UNDO] * done, UNDO)[-2:], [0, -5])

    def test_bytes_and_sessions_are_one_to_one(self):
        chance = random.Random(4)
        for _ in range(60):
            model = random_model(chance)
            row = model.saved()
            session = read_session(row)
            self.assertEqual(session_bytes(session), row)
            self.assertEqual(session_bytes(held_session(model)), row)


def random_calls(chance, size):
    calls = []
    for _ in range(size):
        calls.append(chance.choice((set_hedge(chance.randrange(24), chance.randrange(2)), go(chance.randrange(4)),
                                    go(chance.randrange(4)), UNDO, UNDO, REDO)))
    return calls


def random_start(chance):
    wide, high = chance.randint(1, 4), chance.randint(1, 4)
    hedges = [chance.randrange(2) for _ in inner_sides(wide, high)]
    return begin(drawing(wide, high, hedges), chance.randrange(wide * high))


def random_model(chance):
    model = helper.Model()
    model.calls = [random_start(chance)] + random_calls(chance, 30)
    for call in model.calls:
        model.answer(call)
    return model


def held_session(model):
    return record_behind(*model.calls).journal.session


class Journal(Case):
    def test_a_journal_is_begun_from_the_session_loaded(self):
        changes = [UNDO_ROW, REDO_ROW, go_row(3), set_row(2, 1)]
        notes = note_rows(head_row(RIGHT), changes)
        told = run(begin(GARDEN), go(1), load(RIGHT), UNDO, REDO, go(3), set_hedge(2, 1))
        self.assertEqual(told[2:], [[0]] + [[0] + note for note in notes])


class Wrong(Case):
    def refuse(self, row, *words):
        self.assertEqual(run(load(row)), [[-9]], words)

    def test_how_many_bytes(self):
        for byte in (0, 77, 255):
            self.assertEqual(run(load([byte] * 16384)), [[-9]])
            self.assertEqual(run(load([byte] * 16385)), [[-2]])
            self.assertEqual(run(load([byte] * 16500)), [[-2]])
        self.assertEqual(run(load(RIGHT + [0] * (16384 - len(RIGHT)))), [[-9]])
        self.assertEqual(run(load(RIGHT + [0] * (16385 - len(RIGHT)))), [[-2]])

    def test_each_byte_wrong(self):
        for place in range(len(RIGHT)):
            for other in (RIGHT[place] ^ 1, RIGHT[place] ^ 128, 255 - RIGHT[place]):
                self.refuse(RIGHT[:place] + [other] + RIGHT[place + 1:], place)

    def test_each_byte_wrong_under_a_right_sum(self):
        for place in range(len(RIGHT) - 4):
            for byte in range(256):
                row = summed(RIGHT[:place] + [byte] + RIGHT[place + 1:-4])
                expected = 0 if helper.read(row) is not None else -9
                self.assertEqual(firsts(load(row)), [expected], (place, byte))

    def test_torn(self):
        for size in range(len(RIGHT)):
            self.refuse(RIGHT[:size], size)
            if size != len(RIGHT) - 4:
                self.refuse(summed(RIGHT[:size]), size)

    def test_bytes_left_over(self):
        for more in ([0], [0] * 4, [0] * 8, RIGHT):
            self.refuse(RIGHT + more)
            self.refuse(summed(RIGHT + more))
            self.refuse(summed(RIGHT[:-4] + more))

    def test_first_bytes(self):
        for mark in ([0x4D, 0x5A, 0x4A, 0x31], [0x4D, 0x5A, 0x53, 0x32], [0x5A, 0x4D, 0x53, 0x31], [0] * 4):
            self.refuse(summed(mark + RIGHT[4:-4]))

    def test_lengths(self):
        for size in (0, 1, len(GARDEN) - 1, len(GARDEN) + 1, len(GARDEN) + 8, len(RIGHT), 65536, LARGEST):
            self.refuse(summed(RIGHT[:4] + four(size) + RIGHT[8:-4]))

    def test_drawing(self):
        for garden in ([], GARDEN[:-1], GARDEN + [10], drawing(11, 1), drawing(1, 11), [32] + GARDEN[1:]):
            self.refuse(session_row(garden))

    def test_square(self):
        for square in (4, 5, 256, 65535):
            self.refuse(session_row(GARDEN, square))
        self.refuse(session_row(drawing(10, 10), 100))

    def test_counts(self):
        place = 8 + len(GARDEN) + 2
        for done, taken in ((2, 2), (3, 3), (4, 2), (0, 0), (3, LARGEST), (LARGEST, 2), (LARGEST, 6), (6, LARGEST)):
            self.refuse(summed(RIGHT[:place] + four(done) + four(taken) + RIGHT[place + 8:-4]))
        self.assertEqual(firsts(load(summed(RIGHT[:place] + four(5) + four(0) + RIGHT[place + 8:-4]))), [0])

    def test_more_than_200_steps(self):
        steps = [set_row(0, 1)] * 201
        for done in (0, 1, 100, 200, 201):
            self.refuse(session_row(GARDEN, 0, steps[:done], steps[done:]))

    def test_a_step_that_is_none(self):
        wrong = [change_row(2), change_row(3), change_row(4), change_row(255), change_row(1, 1, 1), change_row(1, 1, 256),
                 [0, 1, 0, 0, 0, 0, 0, 0], [0, 0, 0, 0, 0, 0, 1, 0], [0, 0, 0, 0, 0, 0, 0, 1],
                 [1, 1, 1, 0, 0, 0, 0, 0], [1, 0, 1, 0, 0, 0, 1, 0], [1, 0, 1, 0, 0, 0, 0, 1]]
        for step in wrong + self.cannot_be_done():
            self.refuse(session_row(GARDEN, 0, [step]), step)
            self.refuse(session_row(GARDEN, 0, [], [step]), step)
            self.refuse(session_row(GARDEN, 0, [set_row(0, 0)], [set_row(0, 0), step]), step)

    def cannot_be_done(self):
        return [set_row(4, 1), set_row(65535, 1), set_row(256, 0), set_row(0, 2), set_row(0, 256), set_row(0, 65535),
                go_row(0), go_row(3), go_row(4), go_row(257), go_row(65535)]

    def test_steps_that_cannot_follow(self):
        self.refuse(session_row(GARDEN, 0, [go_row(2), go_row(1)]))
        self.refuse(session_row(GARDEN, 0, [go_row(2)], [go_row(1)]))
        self.refuse(session_row(GARDEN, 0, [set_row(0, 1)], [go_row(1)]))
        self.assertEqual(firsts(load(session_row(GARDEN, 0, [go_row(2), set_row(1, 0)], [go_row(1)]))), [0])

    def test_sum(self):
        self.refuse(RIGHT[:-4] + [0, 0, 0, 0])
        self.refuse(RIGHT[:-4] + RIGHT[:-5:-1])
        self.refuse(RIGHT[:-4] + [255 - byte for byte in RIGHT[-4:]])

    def test_a_journal_is_no_session(self):
        self.refuse(head_row(RIGHT))

    def test_all_is_as_it_was(self):
        before = [load(RIGHT), REDO, set_hedge(0, 0), UNDO]
        for refused in (load([]), load(RIGHT[:-1]), load([0] * 16385), load(session_row(GARDEN, 0, STEPS + STEPS))):
            self.assertLess(firsts(refused)[0], 0)
            self.assertEqual(held_behind(*before, refused), held_behind(*before))
            self.assertEqual(run(*before, refused, REDO)[-1], run(*before, REDO)[-1])
            self.assertIsNone(held(record_behind(refused)))


if __name__ == "__main__":
    unittest.main()

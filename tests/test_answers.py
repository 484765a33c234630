"""The interface: how calls and answers stand in their lists, and long random lines of calls."""

import random
import unittest

import helper
from helper import (
    COUNTS, DRAWN, HEAD, HOME, QUESTIONS, REDO, SAVE, TRAIL, UNDO, Case, begin, change_row, drawing, go, head_row,
    held_behind, inner_sides, load, play, run, session_row, set_hedge, split,
)
from hedgerecord.sessions import UnknownCall, answers


def flat(calls):
    return [number for call in calls for number in call]


class Interface(Case):
    def test_how_answers_stand(self):
        garden = drawing(2, 1)
        told = answers(flat([[6], begin(garden), [5, 1], [5, 1], [4, 0, 9], [6], [7]]))
        notes = helper.note_rows(head_row(session_row(garden)), [change_row(1, 1), change_row(2), change_row(3)])
        self.assertEqual(told, [1, -10, 1, 0, 13, 0] + notes[0] + [1, -4, 1, -1, 13, 0] + notes[1] + [13, 0] + notes[2])
        journal = head_row(session_row(garden)) + notes[0]
        self.assertEqual(answers(play(journal)), [3, 0, 1, len(journal)])
        self.assertEqual(answers(load(session_row(garden))), [1, 0])

    def test_how_answers_to_questions_stand(self):
        garden = drawing(2, 1)
        session = session_row(garden, 1, [change_row(1, 3)])
        told = answers(flat([begin(garden, 1), go(3), DRAWN, COUNTS, HOME, TRAIL, SAVE, HEAD, set_hedge(0, 1), HOME]))
        expected = [len(garden) + 1, 0] + garden
        expected += [9, 0, 2, 1, 1, 1, 0, 0, 1, 0]
        expected += [2, 0, 1]
        expected += [3, 0, 1, 0]
        expected += [len(session) + 1, 0] + session
        expected += [len(session) + 9, 0] + head_row(session)
        expected += [13, 0] + helper.note_rows(head_row(session), [change_row(0, 0, 1)])[0]
        expected += [1, -5]
        self.assertEqual(told[1 + 1 + 14:], expected)

    def test_plain_numbers_in_a_new_list(self):
        calls = flat([begin(drawing(2, 1)), [5, 1], [6], [7], [5, 9], *QUESTIONS, set_hedge(0, 1), *QUESTIONS])
        told = answers(calls)
        self.assertIs(type(told), list)
        self.assertTrue(all(type(number) is int for number in told))
        self.assertIsNot(told, calls)

    def test_rows_without_numbers(self):
        self.assertEqual(answers([1, 0, 0, 2, 0, 3, 0, 6]), [1, -6, 1, -9, 1, -9, 1, -10])

    def test_nothing_handed_in_is_changed(self):
        session = session_row(drawing(2, 2), 1, [change_row(0, 0, 1)], [change_row(1, 2)])
        calls = flat([begin(drawing(2, 2)), set_hedge(0, 1), go(2), UNDO, load(session), REDO, set_hedge(0, 0), *QUESTIONS,
                      play(helper.journal_row(session, [change_row(3), change_row(2)])), UNDO, begin([1] * 1025), *QUESTIONS])
        kept = list(calls)
        answers(calls)
        self.assertEqual(calls, kept)

    def test_nothing_is_kept(self):
        calls = flat([begin(drawing(2, 2)), set_hedge(0, 1), go(2), UNDO, *QUESTIONS])
        self.assertEqual(answers(calls), answers(calls))
        for number in range(6, 14):
            self.assertEqual(answers([number]), [1, -10])

    def test_400_calls(self):
        calls = [begin(drawing(1, 2))] + [go(2), UNDO, REDO] * 133
        model = helper.Model()
        self.assertEqual(run(*calls), [model.answer(call) for call in calls])
        self.assertEqual(len(split(answers([6] * 400))), 400)

    def test_400_calls_with_questions(self):
        start = begin(drawing(10, 10, [p % 3 % 2 for p in range(180)]), 55)
        steps = [go(0), set_hedge(30, 1), go(1), set_hedge(40, 0), UNDO, go(2), REDO, go(3), UNDO, set_hedge(140, 1)]
        calls = [start]
        while len(calls) < 400:
            calls.append(steps[len(calls) // 2 % 10] if len(calls) % 2 else QUESTIONS[len(calls) // 2 % 6])
        model = helper.Model()
        self.assertEqual(run(*calls), [model.answer(call) for call in calls])

    def test_400_calls_behind_200_steps(self):
        calls = [begin(drawing(10, 10), 11)] + [go(1), go(2), go(3), go(0)] * 50
        calls += [QUESTIONS[number % 6] for number in range(400 - len(calls))]
        model = helper.Model()
        self.assertEqual(run(*calls), [model.answer(call) for call in calls])

    def test_long_rows_in_one_line(self):
        self.assertEqual(answers(load([0] * 16500) + play([0] * 13000) + [6]), [1, -2, 1, -9, 1, -10])

    def test_a_call_there_is_not(self):
        with self.assertRaises(UnknownCall):
            answers(begin(drawing(1, 1)) + [99])


class Chance:
    """Random calls, most of which can be done."""

    def __init__(self, seed):
        self.chance = random.Random(seed)
        self.model = helper.Model()
        self.journal = []

    def garden(self):
        wide, high = self.chance.choice(((1, 1), (1, 10), (10, 1), (2, 2), (3, 3), (4, 3), (10, 10)))
        return drawing(wide, high, [int(self.chance.random() < 0.3) for _ in inner_sides(wide, high)])

    def spoilt(self, row):
        """The row as it is, torn, or with a byte changed (the sum at its end right or not)."""
        way = self.chance.randrange(5)
        place = self.chance.randrange(len(row))
        if way == 0:
            return row[:place]
        if way == 1:
            return row[:place] + [self.chance.randrange(256)] + row[place + 1:]
        if way == 2:
            place = self.chance.randrange(max(1, len(row) - 4))
            return helper.summed(row[:place] + [self.chance.randrange(4)] + row[place + 1:-4])
        return row

    def call(self):
        pick = self.chance.random()
        if self.model.first is None or pick < 0.01:
            return begin(self.garden(), self.chance.choice((0, 0, 1, 3, 8, 99)))
        if pick < 0.03:
            return load(self.spoilt(self.model.saved()))
        if pick < 0.05:
            return play(self.spoilt(self.journal))
        if pick < 0.15:
            return self.chance.choice(QUESTIONS)
        if pick < 0.25:
            return set_hedge(self.chance.choice((0, 1, 2, 3, 5, 8, 11, 100, 179, 180)), self.chance.choice((0, 0, 1, 1, 2)))
        if pick < 0.65:
            return go(self.chance.choice((0, 1, 2, 3, 0, 1, 2, 3, 4)))
        return UNDO if pick < 0.85 else REDO

    def answer(self, call):
        told = self.model.answer(call)
        if told[0] == 0:
            if call[0] < 3:
                self.journal = head_row(self.model.saved())
            elif call[0] == 3:
                self.journal = call[2:2 + told[2]]
            elif call[0] == 13:
                self.journal = told[1:]
            elif call[0] < 8:
                self.journal = self.journal + told[1:]
        return told


class SecondTelling(Case):
    def test_random_lines(self):
        for seed in range(60):
            chance = Chance(seed)
            calls = []
            told = []
            while len(calls) < 250 and sum(len(call) for call in calls) < 25000:
                calls.append(chance.call())
                told.append(chance.answer(calls[-1]))
            for question in QUESTIONS:
                calls.append(question)
                told.append(chance.answer(question))
            self.assertEqual(run(*calls), told, seed)
            self.check_state(calls, chance.model)

    def check_state(self, calls, model):
        state = held_behind(*calls)
        stand, square = model.state()
        self.assertEqual(state["hedges"], list(stand.values()))
        self.assertEqual(state["square"], square)
        self.assertEqual(state["done"], model.done)
        self.assertEqual(state["taken"], model.taken[::-1])


if __name__ == "__main__":
    unittest.main()

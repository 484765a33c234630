"""set, go, undo and redo behind begin: what they do, their notes and refusals."""

import unittest

from helper import (
    LARGEST, REDO, REDO_ROW, UNDO, UNDO_ROW, Case, begin, drawing, firsts, go, go_row, head_row, held_behind,
    inner_sides, load, note_rows, play, run, seen, session_row, set_hedge, set_row,
)

PLAIN = ("drawing", "first", "size", "hedges", "square", "done", "before")


def plain(state):
    """The session without what was taken back, and without its journal."""
    return {name: state[name] for name in PLAIN}


class NoSession(Case):
    def test_before_all_else(self):
        for call in (set_hedge(0, 1), set_hedge(LARGEST, LARGEST), go(0), go(LARGEST), UNDO, REDO):
            self.assertEqual(run(call), [[-10]])
            self.assertEqual(run(call, call, begin(drawing(1, 1))), [[-10], [-10], [0]])

    def test_behind_what_was_refused(self):
        for refused in (begin([]), load([]), play([])):
            self.assertEqual(run(refused, set_hedge(0, 2), go(4), UNDO, REDO)[1:], [[-10]] * 4)


class Set(Case):
    def test_each_side_of_a_garden(self):
        for wide, high in ((3, 2), (1, 10), (10, 1), (10, 10)):
            sides = len(inner_sides(wide, high))
            for p in range(sides):
                for old in (0, 1):
                    for z in (0, 1):
                        state = held_behind(begin(drawing(wide, high, [old] * sides), 1), set_hedge(p, z))
                        expected = [old] * sides
                        expected[p] = z
                        self.assertEqual(state["hedges"], expected)
                        self.assertEqual(state["square"], 1)
                        self.assertEqual(len(state["done"]), 1)

    def test_a_hedge_set_hinders_and_opened_lets_through(self):
        sides = inner_sides(3, 3)
        towards = {1: 0, 5: 1, 7: 2, 3: 3}
        for other, k in towards.items():
            p = sides.index((min(4, other), max(4, other)))
            garden = begin(drawing(3, 3), 4)
            self.assertEqual(firsts(garden, set_hedge(p, 1), go(k), set_hedge(p, 0), go(k)), [0, 0, -4, 0, 0])
            for j in set(towards.values()) - {k}:
                self.assertEqual(firsts(garden, set_hedge(p, 1), go(j)), [0, 0, 0])

    def test_notes(self):
        garden = drawing(10, 10)
        head = head_row(session_row(garden, 7))
        notes = note_rows(head, [set_row(179, 1), set_row(0, 0), set_row(100, 1)])
        told = run(begin(garden, 7), set_hedge(179, 1), set_hedge(0, 0), set_hedge(100, 1))
        self.assertEqual(told, [[0]] + [[0] + note for note in notes])

    def test_no_such_side(self):
        for wide, high in ((1, 1), (1, 10), (10, 1), (10, 10), (3, 2)):
            sides = len(inner_sides(wide, high))
            for p in (sides, sides + 1, 256 + sides, 65536, LARGEST):
                for z in (0, 1):
                    self.assertEqual(run(begin(drawing(wide, high)), set_hedge(p, z))[1], [-4])

    def test_neither_hedge_nor_passage(self):
        for z in (2, 3, 255, 256, 257, 65536, 65537, LARGEST):
            self.assertEqual(run(begin(drawing(2, 2)), set_hedge(0, z))[1], [-1])
            self.assertEqual(run(begin(drawing(2, 2)), set_hedge(4, z))[1], [-1])
            self.assertEqual(run(begin(drawing(1, 1)), set_hedge(LARGEST, z))[1], [-1])


class Go(Case):
    def test_each_square_of_passages(self):
        for wide, high in ((1, 1), (1, 10), (10, 1), (10, 10), (3, 2)):
            sides = inner_sides(wide, high)
            for square in range(wide * high):
                x, y = square % wide, square // wide
                beside = [(x, y - 1), (x + 1, y), (x, y + 1), (x - 1, y)]
                for k, (other_x, other_y) in enumerate(beside):
                    inside = 0 <= other_x < wide and 0 <= other_y < high
                    calls = [begin(drawing(wide, high), square), go(k)]
                    self.assertEqual(firsts(*calls)[1], 0 if inside else -4)
                    come_to = other_y * wide + other_x if inside else square
                    self.assertEqual(held_behind(*calls)["square"], come_to)
                    self.assertEqual(held_behind(*calls)["hedges"], [0] * len(sides))

    def test_each_square_of_hedges(self):
        for wide, high in ((1, 1), (1, 10), (10, 1), (10, 10)):
            hedges = [1] * len(inner_sides(wide, high))
            for square in range(wide * high):
                calls = [begin(drawing(wide, high, hedges), square)] + [go(k) for k in range(4)]
                self.assertEqual(firsts(*calls), [0, -4, -4, -4, -4])

    def test_each_side_is_gone_through_where_it_is(self):
        for wide, high in ((10, 10), (1, 10), (10, 1), (2, 3)):
            sides = inner_sides(wide, high)
            for p, (a, b) in enumerate(sides):
                hedges = [1] * len(sides)
                hedges[p] = 0
                there = 1 if b == a + 1 and p < high * (wide - 1) else 2
                garden = drawing(wide, high, hedges)
                for square, way in ((a, there), (b, (there + 2) % 4)):
                    for k in range(4):
                        self.assertEqual(firsts(begin(garden, square), go(k))[1], 0 if k == way else -4)

    def test_notes(self):
        garden = drawing(2, 2)
        notes = note_rows(head_row(session_row(garden, 3)), [go_row(0), go_row(3), go_row(2), go_row(1)])
        self.assertEqual(run(begin(garden, 3), go(0), go(3), go(2), go(1)), [[0]] + [[0] + note for note in notes])

    def test_no_such_way(self):
        for k in (4, 5, 255, 256, 257, 65536, 65537, LARGEST):
            self.assertEqual(run(begin(drawing(3, 3), 4), go(k))[1], [-1])
            self.assertEqual(run(begin(drawing(1, 1)), go(k))[1], [-1])


class UndoRedo(Case):
    STEPS = (set_hedge(0, 1), go(1), set_hedge(0, 0), set_hedge(0, 0), go(3), set_hedge(5, 1), go(0), set_hedge(5, 1))

    def test_taken_back_as_before_and_done_again_as_behind(self):
        start = begin(drawing(3, 3, [0, 0, 0, 0, 1, 0, 1, 0, 0, 0, 0, 0]), 4)
        self.assertEqual(firsts(start, *self.STEPS), [0] * (1 + len(self.STEPS)))
        states = [plain(held_behind(start, *self.STEPS[:size])) for size in range(len(self.STEPS) + 1)]
        size = len(self.STEPS)
        for back in range(size + 1):
            calls = [start, *self.STEPS] + [UNDO] * back
            self.assertEqual(plain(held_behind(*calls)), states[size - back])
            self.assertEqual(len(held_behind(*calls)["taken"]), back)
            for forth in range(back + 1):
                again = calls + [REDO] * forth
                self.assertEqual(plain(held_behind(*again)), states[size - back + forth])
                self.assertEqual(len(held_behind(*again)["taken"]), back - forth)

    def test_each_set_is_taken_back_to_what_was(self):
        for old in (0, 1):
            for z in (0, 1):
                garden = begin(drawing(2, 1, [old]))
                expected = 0 if old == 0 else -4
                self.assertEqual(firsts(garden, set_hedge(0, z), UNDO, go(1)), [0, 0, 0, expected])
                self.assertEqual(firsts(garden, set_hedge(0, z), UNDO, REDO, go(1))[-1], 0 if z == 0 else -4)

    def test_notes(self):
        garden = drawing(2, 2)
        head = head_row(session_row(garden))
        notes = note_rows(head, [go_row(1), UNDO_ROW, REDO_ROW, UNDO_ROW, set_row(0, 1)])
        told = run(begin(garden), go(1), UNDO, REDO, UNDO, set_hedge(0, 1))
        self.assertEqual(told, [[0]] + [[0] + note for note in notes])
        self.assertEqual(told[2][1:9], [2, 0, 0, 0, 0, 0, 0, 0])
        self.assertEqual(told[3][1:9], [3, 0, 0, 0, 0, 0, 0, 0])

    def test_there_is_none(self):
        garden = begin(drawing(2, 2))
        self.assertEqual(run(garden, UNDO, REDO), [[0], [-5], [-5]])
        self.assertEqual(firsts(garden, go(1), REDO, UNDO, UNDO, REDO, REDO), [0, 0, -5, 0, -5, 0, -5])

    def test_a_step_forgets_what_was_taken_back(self):
        garden = begin(drawing(3, 3), 4)
        for step in (set_hedge(0, 0), go(2)):
            calls = [garden, go(0), go(1), UNDO, UNDO, step]
            self.assertEqual(firsts(*calls, REDO)[-1], -5)
            self.assertEqual(seen(held_behind(*calls)), seen(held_behind(garden, step)))
            self.assertEqual(firsts(*calls, UNDO, REDO, REDO)[-3:], [0, 0, -5])

    def test_the_same_step_forgets_too(self):
        calls = [begin(drawing(3, 3), 4), go(0), go(1), UNDO, UNDO, go(0), REDO]
        self.assertEqual(firsts(*calls)[-1], -5)

    def test_a_refused_step_forgets_nothing(self):
        calls = [begin(drawing(2, 1)), go(1), set_hedge(0, 1), UNDO, UNDO]
        for refused in (go(0), go(4), set_hedge(1, 1), set_hedge(0, 2)):
            self.assertEqual(firsts(*calls, refused, REDO, REDO, REDO)[-3:], [0, 0, -5])


class AtMost(Case):
    FULL = [begin(drawing(2, 2))] + [go(1), go(3)] * 50 + [set_hedge(0, 1), set_hedge(0, 0)] * 50

    def test_200_are_done_and_no_more(self):
        self.assertEqual(firsts(*self.FULL), [0] * 201)
        for step in (set_hedge(0, 1), set_hedge(3, 0), go(1), go(2)):
            self.assertEqual(run(*self.FULL, step)[-1], [-3])
            self.assertEqual(firsts(*self.FULL[:-2], set_hedge(0, 0), step)[-1], 0)
            self.assertEqual(held_behind(*self.FULL, step), held_behind(*self.FULL))

    def test_which_counts(self):
        expected = ((set_hedge(4, 2), -1), (set_hedge(0, 2), -1), (set_hedge(4, 1), -4), (set_hedge(3, 1), -3),
                    (go(4), -1), (go(0), -4), (go(3), -4), (go(1), -3), (REDO, -5))
        for call, number in expected:
            self.assertEqual(run(*self.FULL, call)[-1], [number])

    def test_a_hedge_counts_before_200(self):
        full = self.FULL[:-1]
        self.assertEqual(firsts(*full, set_hedge(0, 1), go(1), go(2))[-3:], [0, -4, -3])

    def test_undo_and_redo_at_200(self):
        self.assertEqual(firsts(*self.FULL, UNDO, REDO, set_hedge(0, 1), REDO)[-4:], [0, 0, -3, -5])
        self.assertEqual(firsts(*self.FULL, UNDO, go(2), go(0), UNDO, UNDO, REDO)[-6:], [0, 0, -3, 0, 0, 0])
        state = held_behind(*self.FULL, *[UNDO] * 199)
        self.assertEqual((len(state["done"]), len(state["taken"])), (1, 199))

    def test_all_taken_back_and_done_again(self):
        start = self.FULL[0]
        steps = [go(1), set_hedge(0, 1), set_hedge(0, 0), go(2), go(3), set_hedge(3, 1), go(0)]
        steps = (steps + [set_hedge(3, 0)]) * 24
        calls = [start] + steps
        self.assertEqual(firsts(*calls), [0] * len(calls))
        back = calls + [UNDO] * len(steps)
        self.assertEqual(plain(held_behind(*back)), plain(held_behind(start)))
        self.assertEqual(firsts(*back, UNDO)[-1], -5)


class Refused(Case):
    def test_all_is_as_it_was(self):
        calls = [begin(drawing(2, 1)), set_hedge(0, 1), set_hedge(0, 0), go(1), UNDO]
        for refused in (set_hedge(0, 2), set_hedge(1, 0), set_hedge(1, 2), go(0), go(2), go(3), go(4)):
            self.assertLess(run(*calls, refused)[-1][0], 0)
            self.assertEqual(held_behind(*calls, refused), held_behind(*calls))
            self.assertEqual(run(*calls, refused, REDO)[-1], run(*calls, REDO)[-1])
        self.assertEqual(held_behind(*calls, REDO, REDO), held_behind(*calls, REDO))
        fresh = [begin(drawing(2, 1))]
        self.assertEqual(held_behind(*fresh, UNDO, REDO), held_behind(*fresh))
        self.assertEqual(run(*fresh, UNDO, REDO, go(1))[-1], run(*fresh, go(1))[-1])


if __name__ == "__main__":
    unittest.main()

"""begin: the drawing, the square, the refusals."""

import random
import unittest

import helper
from helper import (
    LARGEST, REDO, UNDO, Case, begin, drawing, firsts, go, held_behind, inner_sides, run, set_hedge, text_bytes,
)

SIZES = ((1, 1), (1, 10), (10, 1), (10, 10), (1, 2), (2, 1), (2, 2), (3, 2), (7, 4))


def all_hedges(wide, high):
    return [1] * len(inner_sides(wide, high))


class Drawings(Case):
    def test_a_written_drawing(self):
        garden = text_bytes("+-+-+-+\n|   | |\n+ +-+ +\n|     |\n+-+-+-+\n")
        state = held_behind(begin(garden, 4))
        self.assertEqual(state["size"], (3, 2))
        self.assertEqual(state["hedges"], [0, 1, 0, 0, 0, 1, 0])
        self.assertEqual(state["square"], 4)
        self.assertEqual((state["done"], state["taken"]), ([], []))

    def test_sizes_open_and_grown_over(self):
        for wide, high in SIZES:
            for hedges in (None, all_hedges(wide, high)):
                garden = drawing(wide, high, hedges)
                self.assertEqual(run(begin(garden)), [[0]])
                state = held_behind(begin(garden))
                self.assertEqual(state["size"], (wide, high))
                self.assertEqual(state["hedges"], hedges or [0] * len(inner_sides(wide, high)))

    def test_each_inner_side_alone(self):
        for wide, high in ((3, 2), (10, 10), (1, 10), (10, 1)):
            for p in range(len(inner_sides(wide, high))):
                hedges = [0] * len(inner_sides(wide, high))
                hedges[p] = 1
                self.assertEqual(held_behind(begin(drawing(wide, high, hedges)))["hedges"], hedges)

    def test_too_short(self):
        for wide, high in SIZES:
            garden = drawing(wide, high)
            for size in range(len(garden)):
                part = garden[:size]
                expected = -6 if helper.garden_of(part) is None else 0
                self.assertEqual(firsts(begin(part)), [expected], (wide, high, size))

    def test_too_short_by_whole_rows_may_be_a_smaller_garden(self):
        hedges = all_hedges(2, 3)
        garden = drawing(2, 3, hedges)
        self.assertEqual(firsts(begin(garden[:18])), [0])
        self.assertEqual(firsts(begin(drawing(2, 3)[:18])), [-6])

    def test_too_long(self):
        for wide, high in SIZES:
            for byte in (10, 32, 43, 45, 124, 0, 255):
                self.assertEqual(firsts(begin(drawing(wide, high) + [byte])), [-6])

    def test_empty(self):
        self.assertEqual(firsts(begin([])), [-6])

    def test_wrong_in_one_byte(self):
        for wide, high in ((1, 1), (2, 2), (3, 2)):
            garden = drawing(wide, high)
            for place in range(len(garden)):
                for byte in range(256):
                    other = garden[:place] + [byte] + garden[place + 1:]
                    expected = -6 if helper.garden_of(other) is None else 0
                    self.assertEqual(firsts(begin(other)), [expected], (wide, high, place, byte))

    def test_wrong_in_one_byte_of_large_gardens(self):
        for wide, high in ((10, 10), (1, 10), (10, 1)):
            for hedges in (None, all_hedges(wide, high)):
                garden = drawing(wide, high, hedges)
                for place in range(len(garden)):
                    for byte in (0, 10, 32, 43, 45, 124, 255):
                        other = garden[:place] + [byte] + garden[place + 1:]
                        expected = -6 if helper.garden_of(other) is None else 0
                        self.assertEqual(firsts(begin(other)), [expected], (wide, high, place, byte))

    def test_a_byte_left_out_or_put_in(self):
        garden = drawing(3, 3, [0, 1] * 6)
        for place in range(len(garden)):
            self.assertEqual(firsts(begin(garden[:place] + garden[place + 1:])), [-6])
            for byte in (10, 32, 43, 45, 124):
                self.assertEqual(firsts(begin(garden[:place] + [byte] + garden[place:])), [-6])

    def test_without_a_last_line(self):
        for wide, high in SIZES:
            line = 2 * wide + 2
            garden = drawing(wide, high, all_hedges(wide, high))
            self.assertEqual(firsts(begin(garden[:-line])), [-6])
            self.assertEqual(firsts(begin(garden[:-1])), [-6])

    def test_a_blank_in_the_last_line(self):
        self.assertEqual(firsts(begin(text_bytes("+-+-+\n|   |\n+ +-+\n"))), [-6])

    def test_more_than_ten(self):
        for wide, high in ((11, 1), (11, 11), (11, 10), (1, 11), (10, 11), (12, 3), (1, 12)):
            for hedges in (None, all_hedges(wide, high)):
                self.assertEqual(firsts(begin(drawing(wide, high, hedges))), [-6])

    def test_no_squares_at_all(self):
        for text in ("\n", "+\n", "+\n|\n+\n", "+-+\n", "+\n \n+\n", "\n\n\n", "+-+\n+-+\n", "--\n", "+-\n| \n+-\n"):
            self.assertEqual(firsts(begin(text_bytes(text))), [-6], text)

    def test_random_rows_of_signs(self):
        chance = random.Random(1)
        for _ in range(2000):
            row = [chance.choice((10, 32, 43, 45, 124)) for _ in range(chance.randrange(40))]
            self.assertEqual(firsts(begin(row)), [-6 if helper.garden_of(row) is None else 0])


class Squares(Case):
    def test_each_square(self):
        for wide, high in SIZES:
            garden = drawing(wide, high)
            for square in range(wide * high):
                self.assertEqual(held_behind(begin(garden, square))["square"], square)

    def test_no_such_square(self):
        for wide, high in SIZES:
            for square in (wide * high, wide * high + 1, 100, 256, 65536, LARGEST):
                self.assertEqual(run(begin(drawing(wide, high), square)), [[-4]])


class Refusals(Case):
    def test_how_many_bytes(self):
        for byte in (0, 10, 43, 255):
            self.assertEqual(run(begin([byte] * 1024)), [[-6]])
            self.assertEqual(run(begin([byte] * 1025)), [[-2]])
            self.assertEqual(run(begin([byte] * 1100)), [[-2]])
        garden = drawing(10, 10)
        self.assertEqual(run(begin(garden + [10] * (1024 - len(garden)))), [[-6]])
        self.assertEqual(run(begin(garden + [10] * (1025 - len(garden)))), [[-2]])

    def test_which_counts(self):
        self.assertEqual(run(begin([0] * 1025, LARGEST)), [[-2]])
        self.assertEqual(run(begin([0] * 1024, LARGEST)), [[-6]])
        self.assertEqual(run(begin(drawing(2, 2)[:-1], 4)), [[-6]])
        self.assertEqual(run(begin(drawing(2, 2), 4)), [[-4]])

    def test_all_is_as_it_was(self):
        before = [begin(drawing(3, 3), 4), set_hedge(0, 1), go(1), UNDO]
        for refused in (begin([0] * 1025), begin([0] * 1024), begin(drawing(3, 3)[:-1]), begin(drawing(2, 2), 4)):
            self.assertEqual(held_behind(*before, refused), held_behind(*before))
            self.assertEqual(run(*before, refused, REDO)[-1], run(*before, REDO)[-1])
            self.assertEqual(run(refused, UNDO)[1], [-10])

    def test_begun_anew_nothing_is_left(self):
        once = [begin(drawing(3, 3), 4), set_hedge(0, 1), go(1), UNDO]
        again = begin(drawing(2, 1), 1)
        self.assertEqual(held_behind(*once, again), held_behind(again))
        self.assertEqual(run(*once, again, UNDO, REDO, go(3))[-4:], run(again, UNDO, REDO, go(3)))


if __name__ == "__main__":
    unittest.main()

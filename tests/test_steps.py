"""Point 5: steps and count."""

import unittest

from closedsquare.desk import answers
from tests.lines import (LEAST, MOST, REFUSAL, ask, begin, count, drawn, get, line, living, moved, picture_bytes, put,
                         put_cells, row, rule, rule_of, set_cell, split, stepped, steps)

FULL = [255] * 8192
GLIDER = drawn(".O.", "..O", "OOO")
BLINKER = drawn("OOO")
# Every number of living neighbours, around living cells and around others.
DENSE = drawn(
    "OOO....O.OOO..OOO",
    "OOO.OO.OO.O...OOO",
    "OOO....OOOOO...OO",
    "...O.O.O.OO......",
    "OOO.O.OOO..O",
    "O.O..O.OOO..",
    "OOO.....O.O....O",
    "..O.OOO..OOO",
    ".O..O.O.O.O.",
    "O.O.OOOOO..O",
)
# With the first cell there, the picture lies inside, over an edge or over the corner.
PLACES = ((100, 60), (250, 60), (100, 250), (250, 251), (255, 255), (0, 0), (244, 246))
NO_STEPS = (LEAST, -65536, -6, -2, -1, 65537, 65538, 131072, MOST)


def kinds_of_cells(cells):
    """All (alive, how many neighbours live) that come among the cells of the square."""
    kinds = set()
    for k in range(9):
        kinds.update((True, k) for place in stepped(cells, 0, 1 << k))
        kinds.update((False, k) for place in stepped(cells, 1 << k, 0))
    return kinds


class Count(unittest.TestCase):
    def test_an_empty_square(self):
        self.assertEqual(ask(count(0), count(1)), [[0], [0]])

    def test_a_full_square(self):
        self.assertEqual(ask(put(1, 3, 5, 256, 256, FULL), count(1), count(0)), [[0], [65536], [0]])

    def test_each_cell_counts_one(self):
        for o in (0, 1):
            told = ask(set_cell(o, 0, 0), count(o), set_cell(o, 255, 0), count(o), set_cell(o, 0, 255), count(o),
                       set_cell(o, 255, 255), count(o), set_cell(o, 63, 9), count(o), set_cell(o, 64, 9, -3), count(o),
                       set_cell(o, 63, 9, 0), count(o), set_cell(o, 63, 9, 0), count(o), count(1 - o), begin(o),
                       count(o))
            self.assertEqual([told[k] for k in range(1, 16, 2)], [[1], [2], [3], [4], [5], [6], [5], [5]])
            self.assertEqual(told[16:], [[0], [0], [0]])

    def test_every_column_and_every_row_counts(self):
        for first in range(0, 256, 16):
            calls = []
            for k in range(first, first + 16):
                calls += [set_cell(0, k, k * 7 % 256), count(0)]
            self.assertEqual(ask(*calls)[1::2], [[k] for k in range(1, 17)])

    def test_nearly_full(self):
        self.assertEqual(ask(put(0, 0, 0, 256, 256, FULL), set_cell(0, 255, 255, 0), count(0))[2], [65535])
        self.assertEqual(ask(put(0, 9, 255, 255, 1, [255] * 32), count(0))[1], [255])
        self.assertEqual(ask(put(0, 9, 255, 256, 1, [255] * 32), count(0))[1], [256])

    def test_nothing_changes(self):
        self.assertEqual(living(0, put_cells(0, DENSE, 250, 250), count(0), count(0)), moved(DENSE, 250, 250))
        self.assertEqual(rule_of(0, rule(0, 77, 300), count(0)), (77, 300))


class Steps(unittest.TestCase):
    def test_a_blinker(self):
        calls = (put_cells(0, BLINKER, 10, 20), steps(0, 1))
        self.assertEqual(living(0, *calls), {(11, 19), (11, 20), (11, 21)})
        self.assertEqual(ask(*calls, count(0))[1:], [[3], [3]])
        self.assertEqual(living(0, *calls, steps(0, 1)), {(10, 20), (11, 20), (12, 20)})

    def test_a_blinker_over_the_corner(self):
        calls = (put_cells(1, BLINKER, 255, 0), steps(1, 1))
        self.assertEqual(living(1, *calls), {(0, 255), (0, 0), (0, 1)})
        self.assertEqual(living(1, *calls, steps(1, 1)), {(255, 0), (0, 0), (1, 0)})

    def test_three_cells_at_three_corners_make_the_fourth(self):
        calls = (set_cell(0, 0, 0), set_cell(0, 255, 0), set_cell(0, 0, 255), steps(0, 1))
        self.assertEqual(living(0, *calls), {(0, 0), (255, 0), (0, 255), (255, 255)})
        self.assertEqual(ask(*calls)[3], [4])

    def test_a_cell_at_each_edge(self):
        for x, y in ((0, 100), (255, 100), (100, 0), (100, 255), (0, 0), (255, 0), (0, 255), (255, 255)):
            calls = (rule(0, 2, 0), set_cell(0, x, y), steps(0, 1))
            ring = {((x + u) % 256, (y + v) % 256) for u in (-1, 0, 1) for v in (-1, 0, 1)} - {(x, y)}
            self.assertEqual(living(0, *calls), ring, (x, y))
            self.assertEqual(ask(*calls)[2], [8], (x, y))

    def test_a_glider_goes_over_the_corner(self):
        calls = (put_cells(0, GLIDER, 252, 253), steps(0, 4))
        self.assertEqual(living(0, *calls), moved(GLIDER, 253, 254))
        self.assertEqual(living(0, *calls, steps(0, 6), steps(0, 2)), moved(GLIDER, 255, 0))
        self.assertEqual(ask(*calls, steps(0, 6), steps(0, 2), count(0))[1:], [[5], [5], [5], [5]])

    def test_the_picture_has_every_kind_of_cell(self):
        self.assertEqual(kinds_of_cells(DENSE), {(alive, k) for alive in (True, False) for k in range(9)})

    def test_each_bit_of_born_and_of_stays(self):
        for k in range(9):
            for born, stays in ((1 << k, 0), (0, 1 << k)):
                x, y = PLACES[k % len(PLACES)]
                calls = (rule(0, born, stays), put_cells(0, DENSE, x, y), steps(0, 1))
                expected = stepped(moved(DENSE, x, y), born, stays)
                self.assertEqual(living(0, *calls), expected, (born, stays))
                self.assertEqual(ask(*calls)[2], [len(expected)], (born, stays))

    def test_rules_of_every_kind(self):
        rules = [(0, 0), (0, 511), (511, 0), (511, 511), (8, 12), (12, 8), (1, 256), (256, 1), (257, 257), (72, 12),
                 (170, 170), (341, 85), (85, 341), (255, 255), (256, 256), (254, 510), (510, 254)]
        for k, (born, stays) in enumerate(rules):
            x, y = PLACES[k % len(PLACES)]
            calls = (rule(1, born, stays), put_cells(1, DENSE, x, y), steps(1, 2))
            expected = stepped(stepped(moved(DENSE, x, y), born, stays), born, stays)
            self.assertEqual(living(1, *calls), expected, (born, stays))
            self.assertEqual(ask(*calls, count(1))[2:], [[len(expected)]] * 2, (born, stays))

    def test_at_every_place(self):
        for x, y in PLACES:
            expected = moved(DENSE, x, y)
            for n in (1, 2, 3):
                expected = stepped(expected, 8, 12)
                self.assertEqual(living(0, put_cells(0, DENSE, x, y), steps(0, n)), expected, (x, y, n))

    def test_without_neighbours_under_bit_0_of_born(self):
        calls = (rule(0, 1, 0), steps(0, 1), steps(0, 1), steps(0, 3), count(0))
        self.assertEqual(ask(*calls), [[0], [65536], [0], [65536], [65536]])
        self.assertEqual(ask(rule(0, 1, 256), steps(0, 1), steps(0, 1)), [[0], [65536], [65536]])
        self.assertEqual(ask(rule(0, 510, 511), steps(0, 6)), [[0], [0]])
        told = ask(rule(0, 1, 0), set_cell(0, 0, 0), steps(0, 1), get(0, 0, 0), get(0, 255, 255), get(0, 2, 0))
        self.assertEqual(told[2:], [[65536 - 9], [0], [0], [1]])

    def test_with_eight_neighbours_under_bit_8_of_born(self):
        hole = (put(0, 0, 0, 256, 256, FULL), set_cell(0, 255, 0, 0))
        self.assertEqual(ask(rule(0, 256, 256), *hole, steps(0, 1), get(0, 255, 0), get(0, 0, 255))[3:],
                         [[65536 - 8], [1], [0]])
        self.assertEqual(ask(rule(0, 256, 128), *hole, steps(0, 1), get(0, 255, 0))[3:], [[9], [1]])
        self.assertEqual(ask(rule(0, 255, 511), *hole, steps(0, 1))[3], [65535])

    def test_one_that_lives_is_not_born(self):
        self.assertEqual(ask(rule(0, 511, 0), put(0, 0, 0, 256, 256, FULL), steps(0, 1))[2], [0])
        self.assertEqual(ask(rule(0, 0, 511), steps(0, 6), put_cells(0, DENSE, 1, 1), steps(0, 6))[1::2],
                         [[0], [len(DENSE)]])

    def test_no_step(self):
        calls = (rule(0, 511, 0), put_cells(0, DENSE, 250, 250), steps(0, 0))
        self.assertEqual(ask(*calls)[2], [len(DENSE)])
        self.assertEqual(living(0, *calls), moved(DENSE, 250, 250))

    def test_several_steps_are_so_many_single_ones(self):
        start = (rule(0, 12, 14), put_cells(0, DENSE, 250, 9))
        for n in range(7):
            self.assertEqual(living(0, *start, steps(0, n)), living(0, *start, *[steps(0, 1)] * n), n)

    def test_six_steps_twice(self):
        start = put_cells(0, DENSE, 120, 253)
        expected = moved(DENSE, 120, 253)
        sizes = []
        for n in range(12):
            expected = stepped(expected, 8, 12)
            sizes.append(len(expected))
        self.assertEqual(living(0, start, steps(0, 6), steps(0, 6)), expected)
        self.assertEqual(ask(start, steps(0, 6), steps(0, 6)), [[0], [sizes[5]], [sizes[11]]])

    def test_refused_and_nothing_changes(self):
        for n in NO_STEPS:
            calls = (rule(0, 5, 6), put_cells(0, DENSE, 250, 250), steps(0, n))
            self.assertEqual(ask(*calls, count(0))[2:], [REFUSAL, [len(DENSE)]], n)
            self.assertEqual(living(0, *calls), moved(DENSE, 250, 250), n)
            self.assertEqual(rule_of(0, *calls), (5, 6), n)

    def test_a_refusal_is_its_number_alone(self):
        self.assertEqual(answers(line(steps(0, -1), steps(1, 65537), count(1))), [1, 0, 1, 0, 1, -2, 1, -2, 1, 0])

    def test_the_rule_stays(self):
        self.assertEqual(rule_of(0, rule(0, 9, 444), steps(0, 1)), (9, 444))

    def test_the_other_square_and_its_rule_stay(self):
        calls = (rule(0, 2, 4), rule(1, 32, 64), put_cells(0, DENSE, 7, 7), put_cells(1, GLIDER, 255, 255), steps(0, 2))
        self.assertEqual(living(1, *calls), moved(GLIDER, 255, 255))
        self.assertEqual(rule_of(1, *calls), (32, 64))
        self.assertEqual(living(0, *calls), stepped(stepped(moved(DENSE, 7, 7), 2, 4), 2, 4))

    def test_each_square_under_its_own_rule(self):
        calls = (rule(0, 2, 0), rule(1, 4, 8), put_cells(0, DENSE, 7, 7), put_cells(1, DENSE, 7, 7), steps(1, 1),
                 steps(0, 1))
        self.assertEqual(living(0, *calls), stepped(moved(DENSE, 7, 7), 2, 0))
        self.assertEqual(living(1, *calls), stepped(moved(DENSE, 7, 7), 4, 8))

    def test_cells_are_set_between_steps(self):
        told = split(answers(line(put_cells(0, BLINKER, 10, 20), steps(0, 1), set_cell(0, 11, 19, 0), steps(0, 1),
                                  row(0, 20))))
        self.assertEqual(told[3:], [[3], [0], [0], [0, 0, 0, 0, 0]])

    def test_a_picture_as_wide_as_the_square(self):
        cells = {(x, y) for x in range(256) for y in range(256) if (x * x + 3 * y * y + x * y) % 7 < 3}
        calls = (rule(0, 200, 100), put(0, 0, 0, 256, 256, picture_bytes(256, 256, cells)), steps(0, 1))
        expected = stepped(cells, 200, 100)
        self.assertEqual(living(0, *calls), expected)
        self.assertEqual(ask(*calls)[2], [len(expected)])


if __name__ == "__main__":
    unittest.main()

"""Point 7: turn."""

import unittest

from tests.lines import (LEAST, MOST, REFUSAL, ask, count, drawn, get, living, moved, picture_bytes, put, put_cells,
                         row, rule, rule_of, set_cell, turn)

# No turn leaves it as it is, wherever it lies.
FLAG = drawn(
    "OOOO",
    "O...",
    "OO..",
    "O...",
    "O...",
)
# Where the cell at x, y lies then.
GOES_TO = (
    lambda x, y: (x, y),
    lambda x, y: (255 - y, x),
    lambda x, y: (255 - x, 255 - y),
    lambda x, y: (y, 255 - x),
    lambda x, y: (255 - x, y),
    lambda x, y: (255 - y, 255 - x),
    lambda x, y: (x, 255 - y),
    lambda x, y: (y, x),
)
# The flag at column 0, row 0, drawn by hand: where the turned picture's first cell lies, and the picture.
TURNED_FLAGS = (
    ((0, 0), FLAG),
    ((251, 0), drawn("OOOOO", "..O.O", "....O", "....O")),
    ((252, 251), drawn("...O", "...O", "..OO", "...O", "OOOO")),
    ((0, 252), drawn("O....", "O....", "O.O..", "OOOOO")),
    ((252, 0), drawn("OOOO", "...O", "..OO", "...O", "...O")),
    ((251, 252), drawn("....O", "....O", "..O.O", "OOOOO")),
    ((0, 251), drawn("O...", "O...", "OO..", "O...", "OOOO")),
    ((0, 0), drawn("OOOOO", "O.O..", "O....", "O....")),
)
REFUSED = (LEAST, -8, -4, -2, -1, 8, 9, 11, 12, 256, 65536, MOST)


def turned(cells, how):
    return {GOES_TO[how](x, y) for x, y in cells}


class Turn(unittest.TestCase):
    def test_answers_0(self):
        self.assertEqual(ask(*[turn(how % 2, how) for how in range(8)]), [[0]] * 8)

    def test_a_picture_at_the_corner(self):
        for how in range(8):
            (x, y), picture = TURNED_FLAGS[how]
            self.assertEqual(living(0, put_cells(0, FLAG), turn(0, how)), moved(picture, x, y), how)

    def test_a_picture_elsewhere(self):
        for how in range(8):
            for x, y in ((100, 31), (254, 200), (40, 253), (254, 253)):
                calls = (put_cells(1, FLAG, x, y), turn(1, how))
                self.assertEqual(living(1, *calls), turned(moved(FLAG, x, y), how), (how, x, y))
                self.assertEqual(ask(*calls, count(1))[1:], [[0], [len(FLAG)]])

    def test_a_full_picture(self):
        cells = {(x, y) for x in range(256) for y in range(256) if (x * x + 5 * y + x * y // 3) % 11 < 4}
        put_all = put(0, 0, 0, 256, 256, picture_bytes(256, 256, cells))
        for how in range(8):
            self.assertEqual(living(0, put_all, turn(0, how)), turned(cells, how), how)

    def test_seen_through_get_and_row(self):
        told = ask(set_cell(0, 3, 10), turn(0, 1), get(0, 245, 3), row(0, 3), get(0, 3, 10))
        self.assertEqual(told[2:], [[1], [0, 0, 0, 0, 1 << 245 - 192], [0]])

    def test_one_turn_after_another(self):
        start = put_cells(0, FLAG, 17, 90)
        cells = moved(FLAG, 17, 90)
        for first in (1, 3, 4, 6):
            for second in (1, 2, 4, 7):
                self.assertEqual(living(0, start, turn(0, first), turn(0, second)),
                                 turned(turned(cells, first), second), (first, second))

    def test_four_quarters_are_none(self):
        start = put_cells(0, FLAG, 17, 90)
        self.assertEqual(living(0, start, *[turn(0, 1)] * 4), moved(FLAG, 17, 90))

    def test_empty_and_full(self):
        for how in range(8):
            self.assertEqual(ask(turn(0, how), count(0)), [[0], [0]])
            self.assertEqual(ask(put(0, 0, 0, 256, 256, [255] * 8192), turn(0, how), count(0)), [[0], [0], [65536]])

    def test_refused_and_nothing_changes(self):
        for how in REFUSED:
            calls = (rule(0, 3, 5), put_cells(0, FLAG, 254, 253), turn(0, how))
            self.assertEqual(ask(*calls)[2], REFUSAL, how)
            self.assertEqual(living(0, *calls), moved(FLAG, 254, 253), how)
            self.assertEqual(rule_of(0, *calls), (3, 5), how)

    def test_the_rule_stays(self):
        for how in range(8):
            self.assertEqual(rule_of(0, rule(0, 300, 41), turn(0, how)), (300, 41))

    def test_the_other_square_stays(self):
        for how in range(8):
            calls = (put_cells(0, FLAG, 17, 90), put_cells(1, FLAG, 254, 253), rule(1, 6, 7), turn(0, how))
            self.assertEqual(living(1, *calls), moved(FLAG, 254, 253))
            self.assertEqual(rule_of(1, *calls), (6, 7))


if __name__ == "__main__":
    unittest.main()

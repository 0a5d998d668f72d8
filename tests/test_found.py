"""Point 9: found."""

import unittest

from tests.lines import (ask, count, drawn, found, lay, living, moved, picture_bytes, put, put_cells, row, rule,
                         rule_of, set_cell, turn)

FLAG = drawn("OOOO", "O...", "OO..", "O...", "O...")
GLIDER = drawn(".O.", "..O", "OOO")
MOVES = ((0, 0), (1, 0), (0, 1), (255, 0), (0, 255), (255, 255), (1, 1), (128, 128), (37, 200), (200, 37), (254, 1))
FULL = [255] * 8192


def pattern(lives):
    """The picture of the whole square with the cells for which lives(x, y) is true."""
    return {(x, y) for x in range(256) for y in range(256) if lives(x, y)}


def put_whole(o, cells):
    return put(o, 0, 0, 256, 256, picture_bytes(256, 256, cells))


def told_of(first, second):
    """What is told of finding the first cells as the second ones."""
    return ask(put_whole(0, first), put_whole(1, second), found(0, 1))[2]


class Found(unittest.TestCase):
    def test_moved_right_and_down(self):
        self.assertEqual(ask(set_cell(0, 5, 7), set_cell(1, 8, 11), found(0, 1))[2], [256 * 4 + 3])

    def test_moved_over_the_edges(self):
        self.assertEqual(ask(set_cell(0, 8, 11), set_cell(1, 5, 7), found(0, 1), found(1, 0))[2:],
                         [[256 * 252 + 253], [256 * 4 + 3]])

    def test_a_picture_moved(self):
        for dx, dy in MOVES:
            for x, y in ((60, 70), (253, 254)):
                calls = (put_cells(0, FLAG, x, y), put_cells(1, FLAG, x + dx, y + dy))
                back = 256 * (-dy % 256) + -dx % 256
                self.assertEqual(ask(*calls, found(0, 1), found(1, 0))[2:], [[256 * dy + dx], [back]], (dx, dy))

    def test_a_whole_picture_moved(self):
        cells = pattern(lambda x, y: (x * x + 5 * y * y + x * y // 3) % 11 < 4)
        for dx, dy in MOVES:
            self.assertEqual(told_of(cells, moved(cells, dx, dy)), [256 * dy + dx], (dx, dy))

    def test_every_number_of_columns_and_of_rows(self):
        for k in range(256):
            told = ask(set_cell(0, 0, 0), set_cell(0, 0, 1), set_cell(1, k, 255 - k), set_cell(1, k, 256 - k & 255),
                       found(0, 1))
            self.assertEqual(told[4], [256 * (255 - k) + k])

    def test_the_least_of_all_on_empty_and_full_squares(self):
        full = (put(0, 0, 0, 256, 256, FULL), put(1, 0, 0, 256, 256, FULL))
        self.assertEqual(ask(found(0, 1), found(1, 0)), [[0], [0]])
        self.assertEqual(ask(*full, found(0, 1), found(1, 0))[2:], [[0], [0]])

    def test_empty_and_full_are_not_found_as_others(self):
        full = put(0, 0, 0, 256, 256, FULL)
        self.assertEqual(ask(full, found(0, 1), found(1, 0))[1:], [[-1], [-1]])
        self.assertEqual(ask(set_cell(0, 4, 4), found(0, 1), found(1, 0))[1:], [[-1], [-1]])
        nearly_full = (put(1, 0, 0, 256, 256, FULL), set_cell(1, 255, 255, 0))
        self.assertEqual(ask(full, *nearly_full, found(0, 1), found(1, 0))[3:], [[-1], [-1]])

    def test_the_least_where_columns_repeat(self):
        for width in (1, 2, 4, 8, 16, 32, 64, 128, 256):
            cells = pattern(lambda x, y: x % width == 0)
            for dx in (0, 1, 3, 7, 100, 255):
                self.assertEqual(told_of(cells, moved(cells, dx, 19)), [dx % width], (width, dx))

    def test_the_least_where_rows_repeat(self):
        for height in (1, 2, 4, 8, 16, 32, 64, 128, 256):
            cells = pattern(lambda x, y: y % height == 0)
            for dy in (0, 1, 3, 7, 100, 255):
                self.assertEqual(told_of(cells, moved(cells, 19, dy)), [256 * (dy % height)], (height, dy))

    def test_fewer_rows_go_before_fewer_columns(self):
        # One cell in each row: moved down by 1 is moved left by 5.
        slanted = pattern(lambda x, y: (x - 5 * y) % 256 == 0)
        self.assertEqual(told_of(slanted, moved(slanted, 0, 1)), [251])
        self.assertEqual(told_of(slanted, moved(slanted, 0, 255)), [5])
        self.assertEqual(told_of(slanted, moved(slanted, 10, 3)), [251])
        # Two cells, 128 columns apart, in every other row: moved down by 2 is moved left by 1.
        steep = pattern(lambda x, y: (2 * x - y) % 256 == 0)
        self.assertEqual(told_of(steep, moved(steep, 0, 1)), [256])
        self.assertEqual(told_of(steep, moved(steep, 0, 2)), [127])
        self.assertEqual(told_of(steep, moved(steep, 200, 3)), [256 + 71])

    def test_a_chessboard(self):
        black = pattern(lambda x, y: (x + y) % 2 == 0)
        white = pattern(lambda x, y: (x + y) % 2 == 1)
        self.assertEqual([told_of(black, white), told_of(white, black), told_of(black, black)], [[1], [1], [0]])

    def test_rows_that_repeat_in_different_ways(self):
        # Row y % 4 repeats after 1, 2, 8 or 32 columns, so that no row but the last tells by how much it is moved.
        widths = (1, 2, 8, 32)
        cells = pattern(lambda x, y: x % widths[y % 4] == 0 and y % 4 > 0)
        for dx, dy in ((0, 0), (1, 0), (30, 1), (31, 2), (33, 3), (64, 4), (255, 255), (8, 6)):
            self.assertEqual(told_of(cells, moved(cells, dx, dy)), [256 * (dy % 4) + dx % 32], (dx, dy))

    def test_rows_moved_apart_are_not_found(self):
        # Each row alone would be found, but not all by the same dx.
        first = {(0, 0), (2, 1)}
        second = {(0, 0), (3, 1)}
        self.assertEqual(told_of(first, second), [-1])
        stripes = pattern(lambda x, y: x % 2 == 0)
        one_row_off = pattern(lambda x, y: x % 2 == (1 if y == 255 else 0))
        self.assertEqual([told_of(stripes, one_row_off), told_of(one_row_off, stripes)], [[-1], [-1]])
        self.assertEqual(told_of(one_row_off, moved(one_row_off, 1, 0)), [1])
        self.assertEqual(told_of(one_row_off, moved(one_row_off, 0, 200)), [256 * 200])

    def test_not_found(self):
        calls = (set_cell(0, 4, 4), set_cell(0, 5, 4), set_cell(1, 4, 4))
        self.assertEqual(ask(*calls, found(0, 1), found(1, 0))[3:], [[-1], [-1]])
        self.assertEqual(ask(*calls, set_cell(1, 4, 5), found(0, 1), found(1, 0))[4:], [[-1], [-1]])
        self.assertEqual(told_of(GLIDER, {(y, x + 9) for x, y in GLIDER}), [-1])

    def test_one_cell_differs(self):
        cells = pattern(lambda x, y: (x * x + 5 * y * y + x * y // 3) % 11 < 4)
        for place in ((0, 0), (255, 0), (0, 255), (255, 255), (100, 31)):
            self.assertEqual(told_of(cells, moved(cells, 3, 4) ^ {place}), [-1], place)

    def test_turned_squares(self):
        start = (put_cells(0, FLAG, 60, 70), put_cells(1, FLAG, 10, 20))
        self.assertEqual([ask(*start, turn(1, how), found(0, 1))[3] for how in range(1, 8)], [[-1]] * 7)
        block = drawn("OO", "OO")
        start = (put_cells(0, block, 0, 0), lay(1, 0, 1))
        self.assertEqual([ask(*start, turn(1, how), found(0, 1))[3][0] for how in range(8)],
                         [0, 254, 256 * 254 + 254, 256 * 254, 254, 256 * 254 + 254, 256 * 254, 0])

    def test_the_square_itself(self):
        chessboard = pattern(lambda x, y: (x + y) % 2 == 0)
        for o in (0, 1):
            self.assertEqual(ask(found(o, o), put_cells(o, FLAG, 254, 253), found(o, o), put_whole(o, chessboard),
                                 found(o, o), put(o, 0, 0, 256, 256, FULL), found(o, o))[::2], [[0]] * 4)

    def test_rules_do_not_matter(self):
        calls = (put_cells(0, FLAG, 60, 70), put_cells(1, FLAG, 62, 71), rule(0, 3, 5), rule(1, 300, 41))
        self.assertEqual(ask(*calls, found(0, 1))[4], [256 + 2])

    def test_nothing_changes(self):
        calls = (put_cells(0, FLAG, 60, 70), put_cells(1, FLAG, 254, 253), rule(0, 3, 5), rule(1, 300, 41), found(0, 1),
                 found(1, 0), found(0, 0))
        self.assertEqual(living(0, *calls), moved(FLAG, 60, 70))
        self.assertEqual(living(1, *calls), moved(FLAG, 254, 253))
        self.assertEqual((rule_of(0, *calls), rule_of(1, *calls)), ((3, 5), (300, 41)))
        self.assertEqual(ask(*calls, count(0), count(1), row(0, 71))[7:], [[9], [9], [0, 1 << 60, 0, 0, 0]])


if __name__ == "__main__":
    unittest.main()

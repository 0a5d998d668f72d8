"""Point 3: put."""

import unittest

from tests.lines import OFF_SQUARE, REFUSAL, ask, get, living, picture_bytes, put, set_cell

SIZES = (0, 1, 7, 8, 9, 255, 256)
# One place where small pictures stay inside, and places where they go round: right, below, both.
PLACES = ((0, 0), (60, 120), (250, 3), (3, 250), (255, 255))
FULL = put(0, 0, 0, 256, 256, [255] * 8192)
EVERY_CELL = {(x, y) for x in range(256) for y in range(256)}


def some_cells(w, h):
    """A picture without symmetry, its corners among the living and the others."""
    return {(x, y) for x in range(w) for y in range(h) if (x * x + 3 * x * y + 5 * y + y * y * 7) % 11 < 5}


def moved(cells, x, y):
    return {((u + x) % 256, (v + y) % 256) for u, v in cells}


def whole(w, h):
    return {(x, y) for x in range(w) for y in range(h)}


class Put(unittest.TestCase):
    def check(self, x, y, w, h, beyond):
        cells = some_cells(w, h)
        call = put(0, x, y, w, h, picture_bytes(w, h, cells, beyond))
        where = (x, y, w, h)
        self.assertEqual(ask(call), [[0]], where)
        self.assertEqual(living(0, call), moved(cells, x, y), where)
        # On a full square: the picture's cells that don't live stop living, cells outside go on.
        not_living = moved(whole(w, h) - cells, x, y)
        self.assertEqual(living(0, FULL, call), EVERY_CELL - not_living, where)

    def test_all_widths(self):
        for w in SIZES:
            for x, y in PLACES:
                self.check(x, y, w, 9, 0)

    def test_all_heights(self):
        for h in SIZES:
            for x, y in PLACES:
                self.check(x, y, 9, h, 0)

    def test_large_both_ways(self):
        for w, h in ((255, 255), (255, 256), (256, 255), (256, 256)):
            self.check(0, 0, w, h, 0)
            self.check(200, 77, w, h, 0)

    def test_nothing_to_put(self):
        for w, h in ((0, 0), (0, 256), (256, 0), (0, 1), (1, 0)):
            for x, y in PLACES:
                self.assertEqual(ask(put(0, x, y, w, h)), [[0]])
            self.assertEqual(living(0, put(0, 255, 255, w, h)), set())
            self.assertEqual(living(0, set_cell(0, 255, 255), put(0, 255, 255, w, h)), {(255, 255)})

    def test_bits_beyond_w_are_no_cells(self):
        for w in (1, 2, 7, 9, 15, 255):
            for x, y in PLACES:
                self.check(x, y, w, 3, 255)

    def test_bits_beyond_w_leave_living_cells(self):
        # One byte whose bits beyond w are 0, laid over living cells.
        row_of_cells = put(0, 20, 30, 8, 1, [255])
        self.assertEqual(living(0, row_of_cells, put(0, 20, 30, 3, 1, [0])), {(x, 30) for x in range(23, 28)})

    def test_the_lowest_bit_is_leftmost(self):
        self.assertEqual(living(0, put(0, 10, 20, 8, 1, [1])), {(10, 20)})
        self.assertEqual(living(0, put(0, 10, 20, 8, 1, [128])), {(17, 20)})
        self.assertEqual(living(0, put(0, 10, 20, 9, 2, [2, 1, 4, 0])), {(11, 20), (18, 20), (12, 21)})

    def test_going_round_at_the_right_edge(self):
        # It comes in at the left in the same row, not in the next one.
        self.assertEqual(living(0, put(0, 254, 5, 4, 1, [15])), {(254, 5), (255, 5), (0, 5), (1, 5)})

    def test_going_round_at_the_lower_edge(self):
        self.assertEqual(living(0, put(0, 5, 254, 1, 4, [1] * 4)), {(5, 254), (5, 255), (5, 0), (5, 1)})

    def test_going_round_at_both(self):
        self.assertEqual(living(0, put(0, 255, 255, 2, 2, [3, 3])), {(255, 255), (0, 255), (255, 0), (0, 0)})

    def test_two_pictures_one_over_the_other(self):
        first = put(0, 100, 100, 4, 2, [15, 15])
        second = put(0, 102, 101, 4, 2, [2, 8])
        expected = {(100, 100), (101, 100), (102, 100), (103, 100), (100, 101), (101, 101), (103, 101), (105, 102)}
        self.assertEqual(living(0, first, second), expected)

    def test_x_or_y_refused(self):
        for off in OFF_SQUARE:
            for x, y in ((off, 7), (7, off), (off, off), (0, off), (off, 255)):
                self.assertEqual(ask(put(0, x, y, 9, 2, [255] * 4)), [REFUSAL], (x, y))
                self.assertEqual(ask(put(0, x, y, 0, 0)), [REFUSAL], (x, y))

    def test_w_or_h_refused_without_a_picture(self):
        for off in OFF_SQUARE:
            if off == 256:
                continue
            for w, h in ((off, 7), (7, off), (off, off), (0, off), (off, 256), (256, off), (off, 0)):
                self.assertEqual(ask(put(0, 3, 4, w, h)), [REFUSAL], (w, h))
                self.assertEqual(ask(put(0, -1, 256, w, h)), [REFUSAL], (w, h))

    def test_nothing_changes_when_refused(self):
        bad = [put(0, x, y, 9, 2, [255] * 4) for x, y in ((-1, 0), (256, 0), (0, -1), (0, 256))]
        bad += [put(0, 0, 0, w, h) for w, h in ((-1, 1), (257, 1), (1, -1), (1, 257), (-1, -1), (257, 257))]
        self.assertEqual(living(0, *bad), set())
        self.assertEqual(living(0, FULL, *bad), EVERY_CELL)

    def test_the_call_behind_a_refused_one_is_understood(self):
        told = ask(put(0, 256, 0, 9, 2, [6, 6, 6, 6]), set_cell(0, 1, 1), put(0, 0, 0, 257, 256), get(0, 1, 1))
        self.assertEqual(told, [REFUSAL, [0], REFUSAL, [1]])


if __name__ == "__main__":
    unittest.main()

"""Point 4: row."""

import unittest

from tests.lines import OFF_SQUARE, REFUSAL, ask, living, put, row, set_cell


class Row(unittest.TestCase):
    def test_a_row_without_living_cells(self):
        for y in (0, 1, 128, 255):
            self.assertEqual(ask(row(0, y)), [[0, 0, 0, 0, 0]])

    def test_leftmost_and_rightmost_cell_of_each_number(self):
        for y in (0, 100, 255):
            for k in range(4):
                for bit in (0, 63):
                    expected = [0, 0, 0, 0, 0]
                    expected[1 + k] = 2 ** bit
                    self.assertEqual(ask(set_cell(0, 64 * k + bit, y), row(0, y))[1], expected)

    def test_each_cell(self):
        for x in range(256):
            expected = [0, 0, 0, 0, 0]
            expected[1 + x // 64] = 2 ** (x % 64)
            self.assertEqual(ask(set_cell(0, x, 9), row(0, 9))[1], expected)

    def test_living_cells_in_all_four_numbers(self):
        calls = [set_cell(0, x, 7) for x in (0, 2, 63, 64, 70, 127, 128, 130, 191, 192, 200, 255)]
        top = 2 ** 63
        self.assertEqual(ask(*calls, row(0, 7))[-1], [0, top + 5, top + 65, top + 5, top + 257])

    def test_a_full_row(self):
        full = 2 ** 64 - 1
        told = ask(put(0, 0, 40, 256, 1, [255] * 32), row(0, 40), row(0, 39), row(0, 41))
        self.assertEqual(told[1:], [[0, full, full, full, full], [0, 0, 0, 0, 0], [0, 0, 0, 0, 0]])

    def test_refused_by_its_number_alone(self):
        full = put(0, 0, 0, 256, 256, [255] * 8192)
        for y in OFF_SQUARE:
            self.assertEqual(ask(full, row(0, y)), [[0], REFUSAL], y)

    def test_nothing_changes(self):
        self.assertEqual(living(0, set_cell(0, 3, 3), row(0, 3), row(0, -1), row(0, 256)), {(3, 3)})


if __name__ == "__main__":
    unittest.main()

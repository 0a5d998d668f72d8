"""Point 2: set, get and near."""

import unittest

from tests.lines import LEAST, MOST, OFF_SQUARE, REFUSAL, ask, get, living, near, put, set_cell

CORNERS = ((0, 0), (255, 0), (0, 255), (255, 255))
EDGES = ((100, 0), (100, 255), (0, 100), (255, 100))
INSIDE = ((100, 100), (1, 1), (63, 64), (64, 63), (127, 128), (128, 127), (191, 192), (254, 254))
FULL = put(0, 0, 0, 256, 256, [255] * 8192)


def around(x, y):
    """The eight neighbours, in order from the upper left."""
    steps = [(dx, dy) for dy in (-1, 0, 1) for dx in (-1, 0, 1) if (dx, dy) != (0, 0)]
    return [((x + dx) % 256, (y + dy) % 256) for dx, dy in steps]


class SetAndGet(unittest.TestCase):
    def test_alive_is_any_number_but_0(self):
        for alive in (1, 2, -1, -2, 256, 65536, LEAST, MOST):
            calls = (set_cell(0, 10, 20, alive), get(0, 10, 20))
            self.assertEqual(ask(*calls), [[0], [1]], alive)
            self.assertEqual(living(0, calls[0]), {(10, 20)}, alive)

    def test_alive_0(self):
        calls = (set_cell(0, 10, 20, 0), get(0, 10, 20), set_cell(0, 10, 20), set_cell(0, 10, 20, 0), get(0, 10, 20))
        self.assertEqual(ask(*calls), [[0], [0], [0], [0], [0]])

    def test_set_twice_over(self):
        for alive in (0, 1):
            calls = (set_cell(0, 5, 5, alive), set_cell(0, 5, 5, alive), get(0, 5, 5))
            self.assertEqual(ask(*calls), [[0], [0], [alive]])

    def test_one_cell_alone_is_set(self):
        for x, y in CORNERS + EDGES + INSIDE:
            self.assertEqual(living(0, set_cell(0, x, y)), {(x, y)})

    def test_one_cell_alone_stops_living(self):
        for x, y in CORNERS + EDGES[:1] + INSIDE[:1]:
            cells = living(0, FULL, set_cell(0, x, y, 0))
            self.assertEqual(len(cells), 65535)
            self.assertNotIn((x, y), cells)

    def test_get_of_cells_beside(self):
        for x, y in CORNERS + EDGES + INSIDE:
            told = ask(set_cell(0, x, y), get(0, x, y), *[get(0, u, v) for u, v in around(x, y)])
            self.assertEqual(told, [[0], [1]] + [[0]] * 8)

    def test_columns_and_rows_are_not_mixed_up(self):
        self.assertEqual(ask(set_cell(0, 3, 200), get(0, 3, 200), get(0, 200, 3)), [[0], [1], [0]])

    def test_set_refused_and_nothing_changes(self):
        for off in OFF_SQUARE:
            for x, y in ((off, 7), (7, off), (off, off), (off, 0), (0, off), (255, off), (off, 255)):
                self.assertEqual(ask(set_cell(0, x, y)), [REFUSAL], (x, y))
                self.assertEqual(ask(set_cell(0, x, y, 0)), [REFUSAL], (x, y))

        offs = [set_cell(0, off, 0) for off in OFF_SQUARE] + [set_cell(0, 255, off) for off in OFF_SQUARE]
        self.assertEqual(living(0, *offs), set())
        offs = [set_cell(0, off, 0, 0) for off in OFF_SQUARE] + [set_cell(0, 255, off, 0) for off in OFF_SQUARE]
        self.assertEqual(len(living(0, FULL, *offs)), 65536)

    def test_get_refused_and_nothing_changes(self):
        for off in OFF_SQUARE:
            for x, y in ((off, 7), (7, off), (off, off), (off, 0), (0, off), (255, off), (off, 255)):
                self.assertEqual(ask(FULL, get(0, x, y)), [[0], REFUSAL], (x, y))
        self.assertEqual(living(0, set_cell(0, 1, 2), get(0, -1, 2), get(0, 1, 256), get(0, 1, 2)), {(1, 2)})


class Near(unittest.TestCase):
    def test_nothing_lives(self):
        for x, y in CORNERS + EDGES + INSIDE:
            self.assertEqual(ask(near(0, x, y)), [[0]])

    def test_the_cell_itself_does_not_count(self):
        for x, y in CORNERS + EDGES + INSIDE:
            self.assertEqual(ask(set_cell(0, x, y), near(0, x, y)), [[0], [0]])

    def test_each_neighbour_counts_one(self):
        for x, y in CORNERS + EDGES + INSIDE:
            for u, v in around(x, y):
                self.assertEqual(ask(set_cell(0, u, v), near(0, x, y)), [[0], [1]], (x, y, u, v))

    def test_no_other_cell_counts(self):
        for x, y in CORNERS + EDGES + INSIDE:
            others = [set_cell(0, u, v, 0) for u, v in around(x, y)]
            self.assertEqual(ask(FULL, *others, near(0, x, y))[-1], [0])

    def test_from_0_to_8(self):
        for x, y in CORNERS + EDGES + INSIDE:
            calls = []
            for u, v in around(x, y):
                calls += [set_cell(0, u, v), near(0, x, y)]
            self.assertEqual(ask(*calls)[1::2], [[k] for k in range(1, 9)])
            self.assertEqual(ask(FULL, near(0, x, y)), [[0], [8]])

    def test_opposite_corners_are_neighbours(self):
        for x, y in CORNERS:
            calls = [set_cell(0, u, v) for u, v in CORNERS]
            self.assertEqual(ask(*calls, near(0, x, y))[-1], [3])

    def test_refused_and_nothing_changes(self):
        for off in OFF_SQUARE:
            for x, y in ((off, 7), (7, off), (off, off), (off, 0), (0, off), (255, off), (off, 255)):
                self.assertEqual(ask(FULL, near(0, x, y)), [[0], REFUSAL], (x, y))
        self.assertEqual(living(0, set_cell(0, 1, 2), near(0, -1, 2), near(0, 1, 256), near(0, 1, 2)), {(1, 2)})


if __name__ == "__main__":
    unittest.main()

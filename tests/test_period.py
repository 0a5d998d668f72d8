"""Point 6: period."""

import unittest

from tests.lines import (LEAST, MOST, REFUSAL, ask, count, drawn, living, moved, period, put, put_cells, rule, rule_of,
                         set_cell, steps)

BLOCK = drawn("OO", "OO")
NEARLY_A_BLOCK = drawn("OO", "O.")
BLINKER = drawn("OOO")
GLIDER = drawn(".O.", "..O", "OOO")
PULSAR = drawn(
    "..OOO...OOO..",
    ".............",
    "O....O.O....O",
    "O....O.O....O",
    "O....O.O....O",
    "..OOO...OOO..",
    ".............",
    "..OOO...OOO..",
    "O....O.O....O",
    "O....O.O....O",
    "O....O.O....O",
    ".............",
    "..OOO...OOO..",
)
OCTAGON = drawn(
    "...OO...",
    "..O..O..",
    ".O....O.",
    "O......O",
    "O......O",
    ".O....O.",
    "..O..O..",
    "...OO...",
)
# Calls on square 0 and the square's period under them.
SQUARES = (
    ((), 1),
    ((put_cells(0, BLOCK, 255, 255),), 1),
    ((put_cells(0, BLINKER, 255, 0),), 2),
    ((rule(0, 1, 0),), 2),
    ((put_cells(0, PULSAR, 250, 249),), 3),
    ((put_cells(0, OCTAGON, 251, 100),), 5),
    ((put_cells(0, PULSAR, 60, 70), put_cells(0, BLINKER, 100, 255)), 6),
)
# Calls on square 0 after which it does not come back within 6 steps.
NEVER_BACK = (
    (set_cell(0, 9, 9),),
    (put_cells(0, NEARLY_A_BLOCK, 255, 255),),
    (put_cells(0, GLIDER, 254, 254),),
    (rule(0, 1, 511),),
    (rule(0, 1, 256), set_cell(0, 3, 3)),
)
REFUSED = (LEAST, -65536, -6, -2, -1, 65537, 65538, 131072, MOST)


class Period(unittest.TestCase):
    def test_the_least_t_up_to_most(self):
        for calls, t in SQUARES:
            for most in range(7):
                self.assertEqual(ask(*calls, period(0, most))[-1], [t if t <= most else 0], (t, most))

    def test_none_up_to_most(self):
        for calls in NEVER_BACK:
            for most in range(7):
                self.assertEqual(ask(*calls, period(0, most))[-1], [0], most)

    def test_most_0(self):
        self.assertEqual(ask(period(0, 0), period(1, 0)), [[0], [0]])

    def test_the_greatest_most_is_taken(self):
        self.assertEqual(ask(period(0, 65536), put_cells(1, BLINKER, 8, 8), period(1, 65536)), [[1], [0], [2]])

    def test_as_it_is_now_and_not_as_it_was_begun(self):
        calls = (put_cells(0, NEARLY_A_BLOCK, 7, 7), period(0, 6), steps(0, 1), period(0, 1))
        self.assertEqual(ask(*calls), [[0], [0], [4], [1]])

    def test_refused(self):
        for most in REFUSED:
            calls = (rule(0, 8, 12), put_cells(0, BLINKER, 255, 0), period(0, most))
            self.assertEqual(ask(*calls, count(0), period(0, 2))[2:], [REFUSAL, [3], [2]], most)
            self.assertEqual(living(0, *calls), {(255, 0), (0, 0), (1, 0)}, most)

    def test_the_square_stays(self):
        for most in (0, 1, 2, 3, 6):
            self.assertEqual(living(0, put_cells(0, GLIDER, 254, 253), period(0, most)), moved(GLIDER, 254, 253))
            self.assertEqual(living(0, put_cells(0, PULSAR, 254, 253), period(0, most)), moved(PULSAR, 254, 253))

    def test_the_rule_stays(self):
        for most in (-1, 0, 3, 65537):
            self.assertEqual(rule_of(0, rule(0, 300, 41), period(0, most)), (300, 41))

    def test_steps_go_on_as_without_it(self):
        start = put_cells(0, GLIDER, 254, 253)
        self.assertEqual(living(0, start, period(0, 5), steps(0, 4)), moved(GLIDER, 255, 254))

    def test_the_other_square_stays(self):
        calls = (put_cells(0, GLIDER, 9, 9), put_cells(1, PULSAR, 5, 5), rule(1, 6, 7), period(0, 3))
        self.assertEqual(living(1, *calls), moved(PULSAR, 5, 5))
        self.assertEqual(rule_of(1, *calls), (6, 7))

    def test_each_square_has_its_own(self):
        calls = (put_cells(0, BLINKER, 9, 9), put_cells(1, PULSAR, 5, 5), period(1, 3), period(0, 3))
        self.assertEqual(ask(*calls)[2:], [[3], [2]])
        calls = (put_cells(0, BLINKER, 9, 9), put_cells(1, BLINKER, 9, 9), rule(1, 0, 511), period(1, 3), period(0, 3))
        self.assertEqual(ask(*calls)[3:], [[1], [2]])

    def test_a_full_square(self):
        full = put(1, 0, 0, 256, 256, [255] * 8192)
        self.assertEqual(ask(full, period(1, 6), rule(1, 0, 256), period(1, 1), rule(1, 1, 0), period(1, 2))[1::2],
                         [[0], [1], [2]])


if __name__ == "__main__":
    unittest.main()

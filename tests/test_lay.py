"""Point 8: lay."""

import unittest

from tests.lines import (LEAST, MOST, REFUSAL, ask, count, get, lay, living, picture_bytes, put, rule, rule_of,
                         set_cell)

FIRST = {(x, y) for x in range(256) for y in range(256) if (x + 3 * y) % 5 < 2}
SECOND = {(x, y) for x in range(256) for y in range(256) if (x * y + x) % 7 < 3}
PUT_BOTH = (put(0, 0, 0, 256, 256, picture_bytes(256, 256, FIRST)),
            put(1, 0, 0, 256, 256, picture_bytes(256, 256, SECOND)))
CELLS = (FIRST, SECOND)
EXPECTED = (
    lambda cells, others: cells & others,
    lambda cells, others: cells | others,
    lambda cells, others: (cells | others) - (cells & others),
    lambda cells, others: cells - others,
)
REFUSED = (LEAST, -4, -3, -2, -1, 4, 5, 8, 256, 65536, MOST)


class Lay(unittest.TestCase):
    def test_answers_0(self):
        self.assertEqual(ask(*[lay(o, p, how) for o in (0, 1) for p in (0, 1) for how in range(4)]), [[0]] * 16)

    def test_a_cell_of_each_kind(self):
        # At column 1 in o alone, at 2 in p alone, at 3 in both, at 4 in none.
        told_by_how = ([0, 0, 1, 0], [1, 1, 1, 0], [1, 1, 0, 0], [1, 0, 0, 0])
        for o, p in ((0, 1), (1, 0)):
            for how in range(4):
                told = ask(set_cell(o, 1, 0), set_cell(o, 3, 0), set_cell(p, 2, 0), set_cell(p, 3, 0), lay(o, p, how),
                           *[get(o, x, 0) for x in (1, 2, 3, 4)], *[get(p, x, 0) for x in (1, 2, 3, 4)], count(o))
                self.assertEqual(told[4], [0])
                self.assertEqual(told[5:9], [[cell] for cell in told_by_how[how]], (o, how))
                self.assertEqual(told[9:13], [[0], [1], [1], [0]], (o, how))
                self.assertEqual(told[13], [sum(told_by_how[how])])

    def test_the_other_square_on_it_and_the_other_stays(self):
        for o, p in ((0, 1), (1, 0)):
            for how in range(4):
                calls = (*PUT_BOTH, lay(o, p, how))
                self.assertEqual(living(o, *calls), EXPECTED[how](CELLS[o], CELLS[p]), (o, how))
                self.assertEqual(living(p, *calls), CELLS[p], (o, how))

    def test_the_square_on_itself(self):
        for o in (0, 1):
            for how in range(4):
                calls = (*PUT_BOTH, lay(o, o, how))
                self.assertEqual(living(o, *calls), CELLS[o] if how < 2 else set(), (o, how))
                self.assertEqual(living(1 - o, *calls), CELLS[1 - o], (o, how))

    def test_an_empty_square_on_it(self):
        self.assertEqual([ask(PUT_BOTH[0], lay(0, 1, how), count(0))[2] for how in range(4)],
                         [[0], [len(FIRST)], [len(FIRST)], [len(FIRST)]])

    def test_on_an_empty_square(self):
        self.assertEqual([ask(PUT_BOTH[0], lay(1, 0, how), count(1))[2] for how in range(4)],
                         [[0], [len(FIRST)], [len(FIRST)], [0]])

    def test_the_squares_go_apart_after_it(self):
        told = ask(set_cell(1, 7, 7), lay(0, 1, 1), set_cell(0, 8, 8), set_cell(1, 9, 9), get(0, 9, 9), get(1, 8, 8),
                   count(0), count(1))
        self.assertEqual(told[4:], [[0], [0], [2], [2]])

    def test_the_rules_stay(self):
        for o, p in ((0, 1), (1, 0), (0, 0), (1, 1)):
            for how in (-1, 0, 1, 2, 3, 4):
                calls = (rule(0, 300, 41), rule(1, 6, 7), lay(o, p, how))
                self.assertEqual((rule_of(0, *calls), rule_of(1, *calls)), ((300, 41), (6, 7)), (o, p, how))

    def test_refused_and_nothing_changes(self):
        for how in REFUSED:
            for o, p in ((0, 1), (1, 0), (0, 0), (1, 1)):
                told = ask(*PUT_BOTH, lay(o, p, how), count(0), count(1))
                self.assertEqual(told[2:], [REFUSAL, [len(FIRST)], [len(SECOND)]], (o, p, how))
        for o in (0, 1):
            for how in (-1, 4):
                self.assertEqual(living(o, *PUT_BOTH, lay(o, 1 - o, how)), CELLS[o])


if __name__ == "__main__":
    unittest.main()

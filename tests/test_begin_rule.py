"""Point 1: begin and rule."""

import unittest

from tests.lines import LEAST, MOST, REFUSAL, ask, begin, get, living, put, row, rule, rule_of, set_cell


class Begin(unittest.TestCase):
    def test_answers_0(self):
        self.assertEqual(ask(begin(0), begin(1), begin(0)), [[0], [0], [0]])

    def test_no_cell_lives(self):
        self.assertEqual(living(0), set())
        self.assertEqual(living(1), set())

    def test_no_cell_lives_when_it_comes_again(self):
        full = put(0, 0, 0, 256, 256, [255] * 8192)
        self.assertEqual(len(living(0, full)), 65536)
        self.assertEqual(living(0, full, begin(0)), set())

    def test_the_other_square_stays_when_it_comes_again(self):
        calls = (set_cell(0, 3, 4), set_cell(1, 5, 6), begin(0))
        self.assertEqual(living(0, *calls), set())
        self.assertEqual(living(1, *calls), {(5, 6)})

    def test_cells_can_be_set_after_it_came_again(self):
        told = ask(set_cell(1, 9, 9), begin(1), set_cell(1, 8, 9), get(1, 9, 9), row(1, 9))
        self.assertEqual(told[3:], [[0], [0, 256, 0, 0, 0]])

    def test_the_rule_is_8_and_12(self):
        self.assertEqual([rule_of(o) for o in (0, 1)], [(8, 12), (8, 12)])

    def test_the_rule_is_8_and_12_when_it_comes_again(self):
        calls = (rule(0, 1, 2), rule(1, 3, 4), begin(0))
        self.assertEqual([rule_of(o, *calls) for o in (0, 1)], [(8, 12), (3, 4)])
        self.assertEqual([rule_of(o, *calls, begin(1)) for o in (0, 1)], [(8, 12), (8, 12)])


class Rule(unittest.TestCase):
    taken = (0, 1, 8, 12, 255, 256, 510, 511)
    refused = (LEAST, -512, -511, -2, -1, 512, 513, 1023, 65536, MOST)

    def test_both_numbers_from_0_to_511(self):
        for born in self.taken:
            for stays in self.taken:
                self.assertEqual(ask(rule(1, born, stays)), [[0]])
                self.assertEqual(rule_of(1, rule(1, born, stays)), (born, stays))
                self.assertEqual(rule_of(0, rule(1, born, stays)), (8, 12))

    def test_every_number_from_0_to_511_is_taken(self):
        for number in range(512):
            self.assertEqual(ask(rule(0, number, 511 - number)), [[0]])
            self.assertEqual(rule_of(0, rule(0, number, 511 - number)), (number, 511 - number))

    def test_the_last_rule_holds(self):
        self.assertEqual(rule_of(0, rule(0, 511, 511), rule(0, 7, 70)), (7, 70))

    def test_refused_and_nothing_changes(self):
        pairs = [(bad, good) for bad in self.refused for good in (0, 5, 511)]
        pairs += [(good, bad) for bad in self.refused for good in (0, 5, 511)]
        pairs += [(bad, bad) for bad in self.refused]
        for born, stays in pairs:
            calls = (rule(0, 100, 200), rule(0, born, stays))
            self.assertEqual(ask(*calls), [[0], REFUSAL], (born, stays))
            self.assertEqual(rule_of(0, *calls), (100, 200), (born, stays))

    def test_cells_stay(self):
        calls = (set_cell(0, 7, 8), rule(0, 0, 0), rule(0, 511, 512))
        self.assertEqual(living(0, *calls), {(7, 8)})


if __name__ == "__main__":
    unittest.main()

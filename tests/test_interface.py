"""The interface: closedsquare.desk.answers."""

import unittest

import closedsquare.desk
from tests.lines import ask, begin, get, line, living, near, put, row, rule, set_cell, split

MIXED = (
    put(0, 250, 250, 12, 12, [255, 15] * 12),
    set_cell(1, 0, 0, -7),
    get(0, 0, 0),
    rule(1, 511, 0),
    near(1, 255, 255),
    put(1, 4, 4, 300, 1),
    row(1, 0),
    row(0, 256),
    begin(0),
    near(0, 0, 0),
    row(0, 250),
)


class Frozen(list):
    """A list that takes no change, also none that would be taken back."""

    def refuse(self, *args, **kwargs):
        raise AssertionError("what was handed in is changed")

    append = extend = insert = pop = remove = clear = sort = reverse = refuse
    __setitem__ = __delitem__ = __iadd__ = __imul__ = refuse


class Interface(unittest.TestCase):
    def test_the_count_ahead_of_each_answer(self):
        calls = line(set_cell(0, 64, 2, 5), get(0, 64, 2), near(0, 65, 3), row(0, 2), row(0, -1), get(1, 64, 2))
        expected = [1, 0, 1, 0, 1, 0, 1, 1, 1, 1, 5, 0, 0, 1, 0, 0, 1, -2, 1, 0]
        self.assertEqual(closedsquare.desk.answers(calls), expected)

    def test_the_shortest_line(self):
        self.assertEqual(closedsquare.desk.answers([1, 0, 1, 1]), [1, 0, 1, 0])

    def test_begin_of_1_first(self):
        self.assertEqual(closedsquare.desk.answers([1, 1, 1, 0, 3, 1, 2, 3, 1, 4, 1, 2, 3]), [1, 0, 1, 0, 1, 0, 1, 1])

    def test_forty_calls(self):
        calls = [set_cell(0, x, 0) for x in range(37)]
        self.assertEqual(ask(*calls, row(0, 0)), [[0]] * 37 + [[0, 2 ** 37 - 1, 0, 0, 0]])

    def test_a_list_of_nearly_30000(self):
        full = put(0, 0, 0, 256, 256, [255] * 8192)
        calls = line(full, full, full, put(1, 9, 9, 256, 160, [255] * 5120), near(0, 0, 0), near(1, 9, 9))
        self.assertLessEqual(len(calls), 30000)
        self.assertEqual(split(closedsquare.desk.answers(calls))[-2:], [[8], [5]])

    def test_the_squares_are_not_mixed_up(self):
        calls = (set_cell(0, 1, 2), set_cell(1, 3, 4), put(0, 10, 10, 2, 1, [3]), put(1, 20, 20, 1, 2, [1, 1]))
        self.assertEqual(living(0, *calls), {(1, 2), (10, 10), (11, 10)})
        self.assertEqual(living(1, *calls), {(3, 4), (20, 20), (20, 21)})
        told = ask(*calls, get(0, 1, 2), get(1, 1, 2), get(0, 3, 4), get(1, 3, 4), near(0, 2, 2), near(1, 2, 2),
                   row(0, 4), row(1, 4))
        self.assertEqual(told[4:], [[1], [0], [0], [1], [1], [0], [0, 0, 0, 0, 0], [0, 8, 0, 0, 0]])

    def test_mixed_calls(self):
        told = ask(*MIXED)
        expected = [[0], [0], [1], [0], [1], [-2], [0, 1, 0, 0, 0], [-2], [0], [0], [0, 0, 0, 0, 0]]
        self.assertEqual(told, expected)

    def test_a_list_of_plain_whole_numbers(self):
        told = closedsquare.desk.answers(line(*MIXED))
        self.assertIs(type(told), list)
        self.assertEqual({type(number) for number in told}, {int})

    def test_what_is_handed_in_is_as_it_was(self):
        calls = line(*MIXED)
        before = list(calls)
        told = closedsquare.desk.answers(calls)
        self.assertEqual(calls, before)
        self.assertIsNot(told, calls)

    def test_what_is_handed_in_is_not_changed_for_a_while(self):
        calls = line(*MIXED)
        self.assertEqual(closedsquare.desk.answers(Frozen(calls)), closedsquare.desk.answers(calls))

    def test_twice_over_gives_the_same(self):
        calls = line(*MIXED)
        first = closedsquare.desk.answers(calls)
        kept = list(first)
        closedsquare.desk.answers(line(set_cell(0, 0, 0), set_cell(1, 255, 255), rule(0, 1, 1)))
        second = closedsquare.desk.answers(calls)
        self.assertEqual(second, kept)
        self.assertEqual(first, kept)
        self.assertIsNot(first, second)

    def test_what_is_given_back_may_be_changed(self):
        calls = line(*MIXED)
        first = closedsquare.desk.answers(calls)
        kept = list(first)
        first.clear()
        self.assertEqual(closedsquare.desk.answers(calls), kept)


if __name__ == "__main__":
    unittest.main()

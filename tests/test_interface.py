"""The interface: closedsquare.desk.answers."""

import unittest

import closedsquare.desk
from tests.lines import (around, ask, begin, count, found, get, lay, line, living, moved, near, period, put, row,
                         rule, set_cell, split, stepped, steps, turn)

MIXED = (
    put(0, 250, 250, 12, 12, [255, 15] * 12),
    set_cell(1, 0, 0, -7),
    get(0, 0, 0),
    rule(1, 511, 0),
    near(1, 255, 255),
    put(1, 4, 4, 300, 1),
    row(1, 0),
    row(0, 256),
    begin(0),
    near(0, 0, 0),
    row(0, 250),
    put(0, 255, 7, 3, 1, [7]),
    lay(1, 0, 1),
    lay(1, 1, 4),
    count(1),
    turn(1, 5),
    turn(0, 8),
    found(0, 0),
    found(0, 1),
    rule(1, 8, 12),
    period(0, 3),
    period(1, -1),
    steps(0, 3),
    steps(1, 65537),
    count(0),
    row(0, 6),
)


class Frozen(list):
    """A list that takes no change, also none that would be taken back."""

    def refuse(self, *args, **kwargs):
        raise AssertionError("what was handed in is changed")

    append = extend = insert = pop = remove = clear = sort = reverse = refuse
    __setitem__ = __delitem__ = __iadd__ = __imul__ = refuse


class Interface(unittest.TestCase):
    def test_the_count_ahead_of_each_answer(self):
        calls = line(set_cell(0, 64, 2, 5), get(0, 64, 2), near(0, 65, 3), row(0, 2), row(0, -1), get(1, 64, 2))
        expected = [1, 0, 1, 0, 1, 0, 1, 1, 1, 1, 5, 0, 0, 1, 0, 0, 1, -2, 1, 0]
        self.assertEqual(closedsquare.desk.answers(calls), expected)

    def test_the_shortest_line(self):
        self.assertEqual(closedsquare.desk.answers([1, 0, 1, 1]), [1, 0, 1, 0])

    def test_begin_of_1_first(self):
        self.assertEqual(closedsquare.desk.answers([1, 1, 1, 0, 3, 1, 2, 3, 1, 4, 1, 2, 3]), [1, 0, 1, 0, 1, 0, 1, 1])

    def test_forty_calls(self):
        calls = [set_cell(0, x, 0) for x in range(37)]
        self.assertEqual(ask(*calls, row(0, 0)), [[0]] * 37 + [[0, 2 ** 37 - 1, 0, 0, 0]])

    def test_a_list_of_nearly_30000(self):
        full = put(0, 0, 0, 256, 256, [255] * 8192)
        calls = line(full, full, full, put(1, 9, 9, 256, 160, [255] * 5120), near(0, 0, 0), near(1, 9, 9))
        self.assertLessEqual(len(calls), 30000)
        self.assertEqual(split(closedsquare.desk.answers(calls))[-2:], [[8], [5]])

    def test_the_longest_line(self):
        # 40 calls with 30000 numbers, and 12 steps in all.
        full = put(0, 0, 0, 256, 256, [255] * 8192)
        calls = [full, full, put(1, 0, 0, 256, 256, [255, 0] * 4096), put(0, 0, 100, 256, 150, [0] * 4800),
                 rule(0, 0, 511), rule(1, 8, 0), set_cell(1, 255, 255, 1)]
        more = [lay(0, 1, 0), turn(0, 1), steps(0, 6), steps(1, 1), period(1, 5), found(0, 1), count(0), count(1)]
        more += [near(0, x, 15) for x in range(21)]
        calls.append(put(0, 0, 0, 8, 256, [0] * 256))
        spare = 30000 - len(line(*calls, *more)) - len(put(0, 8, 0, 8, 0))
        calls += [put(0, 8, 0, 8, spare, [0] * spare)] + more
        numbers = line(*calls)
        self.assertEqual((len(calls), len(numbers)), (38, 30000))
        own = {(x, y) for x in range(256) for y in range(256) if x >= 8 and not 100 <= y < 250}
        other = {(x, y) for x in range(256) for y in range(256) if x // 8 % 2 == 0} | {(255, 255)}
        own = {(255 - y, x) for x, y in own & other}
        other = stepped(other, 8, 0)
        later = [other]
        for k in range(5):
            later.append(stepped(later[-1], 8, 0))
        t = later.index(other, 1) if other in later[1:] else 0
        told = split(closedsquare.desk.answers(numbers))
        self.assertEqual(told[:13], [[0]] * 13)
        self.assertEqual(told[13:19], [[len(own)], [len(other)], [t], [-1], [len(own)], [len(other)]])
        self.assertEqual(told[19:], [[len(own.intersection(around(x, 15)))] for x in range(21)])
        self.assertEqual({answer[0] for answer in told[19:]}, {0, 1, 2, 3})

    def test_the_squares_are_not_mixed_up(self):
        calls = (set_cell(0, 1, 2), set_cell(1, 3, 4), put(0, 10, 10, 2, 1, [3]), put(1, 20, 20, 1, 2, [1, 1]))
        self.assertEqual(living(0, *calls), {(1, 2), (10, 10), (11, 10)})
        self.assertEqual(living(1, *calls), {(3, 4), (20, 20), (20, 21)})
        told = ask(*calls, get(0, 1, 2), get(1, 1, 2), get(0, 3, 4), get(1, 3, 4), near(0, 2, 2), near(1, 2, 2),
                   row(0, 4), row(1, 4))
        self.assertEqual(told[4:], [[1], [0], [0], [1], [1], [0], [0, 0, 0, 0, 0], [0, 8, 0, 0, 0]])

    def test_mixed_calls(self):
        told = ask(*MIXED)
        expected = [[0], [0], [1], [0], [1], [-2], [0, 1, 0, 0, 0], [-2], [0], [0], [0, 0, 0, 0, 0], [0], [0], [-2],
                    [4], [0], [-2], [0], [-1], [0], [2], [-2], [3], [-2], [3], [0, 1, 0, 0, 0]]
        self.assertEqual(told, expected)

    def test_a_list_of_plain_whole_numbers(self):
        told = closedsquare.desk.answers(line(*MIXED))
        self.assertIs(type(told), list)
        self.assertEqual({type(number) for number in told}, {int})

    def test_what_is_handed_in_is_as_it_was(self):
        calls = line(*MIXED)
        before = list(calls)
        told = closedsquare.desk.answers(calls)
        self.assertEqual(calls, before)
        self.assertIsNot(told, calls)

    def test_what_is_handed_in_is_not_changed_for_a_while(self):
        calls = line(*MIXED)
        self.assertEqual(closedsquare.desk.answers(Frozen(calls)), closedsquare.desk.answers(calls))

    def test_twice_over_gives_the_same(self):
        calls = line(*MIXED)
        first = closedsquare.desk.answers(calls)
        kept = list(first)
        closedsquare.desk.answers(line(set_cell(0, 0, 0), set_cell(1, 255, 255), rule(0, 1, 1)))
        second = closedsquare.desk.answers(calls)
        self.assertEqual(second, kept)
        self.assertEqual(first, kept)
        self.assertIsNot(first, second)

    def test_a_line_of_its_own_knows_nothing_of_the_last(self):
        fresh = line(count(0), count(1), found(0, 1), period(0, 1), put(0, 9, 9, 3, 1, [7]), steps(0, 1))
        expected = [[0], [0], [0], [0], [0], [1], [0], [3]]
        for calls in (line(*MIXED), line(rule(0, 511, 511), rule(1, 1, 1), steps(0, 1), lay(1, 0, 1)), fresh):
            closedsquare.desk.answers(calls)
            self.assertEqual(split(closedsquare.desk.answers(fresh)), expected)

    def test_what_each_call_leaves_is_there_for_the_next(self):
        glider = {(1, 0), (2, 1), (0, 2), (1, 2), (2, 2)}
        calls = (put(0, 254, 254, 3, 3, [2, 4, 7]), lay(1, 0, 1), steps(0, 4), found(1, 0), lay(1, 0, 2), turn(1, 2),
                 count(1), turn(0, 4))
        self.assertEqual(ask(*calls)[2:], [[5], [257], [0], [0], [len(moved(glider, 0, 0) ^ moved(glider, 1, 1))], [0]])
        self.assertEqual(living(0, *calls), {(255 - x, y) for x, y in moved(glider, 255, 255)})
        both = moved(glider, 254, 254) ^ moved(glider, 255, 255)
        self.assertEqual(living(1, *calls), {(255 - x, 255 - y) for x, y in both})

    def test_what_is_given_back_may_be_changed(self):
        calls = line(*MIXED)
        first = closedsquare.desk.answers(calls)
        kept = list(first)
        first.clear()
        self.assertEqual(closedsquare.desk.answers(calls), kept)


if __name__ == "__main__":
    unittest.main()

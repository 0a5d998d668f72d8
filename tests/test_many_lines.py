"""Many lines of calls, against a second reckoning that keeps the living cells one by one."""

import unittest

from closedsquare.desk import answers
from tests.lines import (around, begin, count, found, get, lay, line, near, period, put, row, rule, set_cell, split,
                         stepped, steps, turn)


class Numbers:
    """The same row of numbers at every run."""

    def __init__(self, seed):
        self.state = seed

    def below(self, bound):
        self.state = (self.state * 6364136223846793005 + 1442695040888963407) % 2 ** 64
        return (self.state >> 33) % bound

    def one_of(self, *choices):
        return choices[self.below(len(choices))]

    def place(self):
        """A column or a row: mostly at an edge, and at times none at all."""
        return self.one_of(0, 1, 254, 255, self.below(256), self.below(256), self.below(300) - 20)

    def size(self):
        return self.one_of(0, 1, 7, 8, 9, 255, 256, self.below(20), self.below(257), self.below(300) - 20)


def quarter(cells):
    return {(255 - y, x) for x, y in cells}


class Reckoning:
    """The two squares as sets of living cells, with their rules."""

    def __init__(self):
        self.cells = [set(), set()]
        self.rules = [(8, 12), (8, 12)]

    def answer(self, name, o, *numbers):
        return getattr(self, name)(o, *numbers)

    def begin(self, o):
        self.cells[o] = set()
        self.rules[o] = (8, 12)
        return [0]

    def rule(self, o, born, stays):
        if born not in range(512) or stays not in range(512):
            return [-2]
        self.rules[o] = (born, stays)
        return [0]

    def set_cell(self, o, x, y, alive):
        if x not in range(256) or y not in range(256):
            return [-2]
        self.cells[o].discard((x, y))
        if alive:
            self.cells[o].add((x, y))
        return [0]

    def get(self, o, x, y):
        if x not in range(256) or y not in range(256):
            return [-2]
        return [int((x, y) in self.cells[o])]

    def near(self, o, x, y):
        if x not in range(256) or y not in range(256):
            return [-2]
        return [len([place for place in around(x, y) if place in self.cells[o]])]

    def put(self, o, x, y, w, h, picture):
        if x not in range(256) or y not in range(256) or w not in range(257) or h not in range(257):
            return [-2]
        wide = (w + 7) // 8
        for v in range(h):
            for u in range(w):
                alive = picture[v * wide + u // 8] >> (u % 8) & 1
                self.set_cell(o, (x + u) % 256, (y + v) % 256, alive)
        return [0]

    def row(self, o, y):
        if y not in range(256):
            return [-2]
        return [0] + [sum(2 ** b for b in range(64) if (64 * k + b, y) in self.cells[o]) for k in range(4)]

    def steps(self, o, n):
        if n not in range(65537):
            return [-2]
        for k in range(n):
            self.cells[o] = stepped(self.cells[o], *self.rules[o])
        return self.count(o)

    def count(self, o):
        return [len(self.cells[o])]

    def period(self, o, most):
        if most not in range(65537):
            return [-2]
        cells = self.cells[o]
        for t in range(1, most + 1):
            cells = stepped(cells, *self.rules[o])
            if cells == self.cells[o]:
                return [t]
        return [0]

    def turn(self, o, how):
        if how not in range(8):
            return [-2]
        cells = {(255 - x, y) for x, y in self.cells[o]} if how >= 4 else set(self.cells[o])
        for k in range(how % 4):
            cells = quarter(cells)
        self.cells[o] = cells
        return [0]

    def lay(self, o, p, how):
        if how not in range(4):
            return [-2]
        own, others = self.cells[o], self.cells[p]
        self.cells[o] = (own & others, own | others, own ^ others, own - others)[how]
        return [0]

    def found(self, o, p):
        own, others = self.cells[o], self.cells[p]
        if len(own) != len(others):
            return [-1]
        if not own:
            return [0]
        # One living cell of o must come to lie on one of p.
        x, y = min(own)
        for number in sorted(256 * ((v - y) % 256) + (u - x) % 256 for u, v in others):
            dx, dy = number % 256, number // 256
            if all(((u + dx) % 256, (v + dy) % 256) in others for u, v in own):
                return [number]
        return [-1]


CALLS = {"begin": begin, "rule": rule, "set_cell": set_cell, "get": get, "near": near, "put": put, "row": row,
         "steps": steps, "count": count, "period": period, "turn": turn, "lay": lay, "found": found}
FIRST_CALLS = ("rule", "set_cell", "set_cell", "get", "get", "near", "near", "near", "put", "put", "put", "row", "row",
               "row")
ALL_CALLS = ("rule", "rule", "set_cell", "get", "near", "put", "put", "put", "row", "row", "row", "steps", "steps",
             "count", "period", "turn", "lay", "lay", "found", "found", "twins")
# Of a block, of three cells in a row, of a ring and of a slanted line: sizes and bytes.
SMALL_PICTURES = ((2, 2, [3, 3]), (3, 1, [7]), (3, 3, [7, 5, 7]), (3, 3, [1, 2, 4]))


class Chooser:
    """Chooses the calls of one line, within what a line may have."""

    def __init__(self, seed, names):
        self.numbers = Numbers(seed)
        self.names = names
        self.chosen = []
        self.room = 30000 - 4
        self.steps_left = 12

    def line(self):
        while len(self.chosen) < 38:
            for call in self.some_calls():
                length = len(CALLS[call[0]](*call[1:]))
                if len(self.chosen) < 38 and length <= self.room - 500:
                    self.chosen.append(call)
                    self.room -= length
        return self.chosen

    def some_calls(self):
        numbers = self.numbers
        name = numbers.one_of(*self.names)
        o = numbers.below(2)
        if name == "rule":
            # Mostly the first rule or one near it: under most others the cells soon tell little.
            return [(name, o, *numbers.one_of((8, 12), (8, 12), (8, 8 + numbers.below(8)),
                                              (numbers.below(600) - 40, numbers.below(600) - 40)))]
        if name in ("steps", "period"):
            return [(name, o, self.some_steps())]
        if name == "count":
            return [(name, o)] if numbers.below(8) else [("begin", o)]
        if name == "turn":
            return [(name, o, numbers.below(10) - 1)]
        if name == "lay":
            return [(name, o, numbers.below(2), numbers.below(6) - 1)]
        if name == "found":
            return [(name, o, numbers.below(2))]
        if name == "twins":
            return self.some_twins(o)
        if name == "row":
            return [(name, o, numbers.place())]
        if name == "set_cell":
            return [(name, o, numbers.place(), numbers.place(), numbers.below(5) - 2)]
        if name == "put":
            return [(name, o, numbers.place(), numbers.place(), *self.some_picture(numbers.size(), numbers.size()))]
        return [(name, o, numbers.place(), numbers.place())]

    def some_steps(self):
        if self.numbers.below(8) == 0:
            return self.numbers.one_of(-1, -2 ** 31, 65537, 2 ** 31 - 1)
        n = self.numbers.below(min(self.steps_left, 6) + 1)
        self.steps_left -= n
        return n

    def some_picture(self, w, h):
        """The two sizes and the bytes for them; most pictures are kept small, so that several have room."""
        if w not in range(257) or h not in range(257):
            return w, h, []
        wide = (w + 7) // 8
        if self.numbers.below(4):
            h = min(h, 900 // max(wide, 1))
        return w, h, [self.numbers.below(256) & self.numbers.below(256) for k in range(h * wide)]

    def some_twins(self, o):
        """Calls after which both squares have the same picture at two places, mostly."""
        numbers = self.numbers
        picture = numbers.one_of(*SMALL_PICTURES, *[self.some_picture(numbers.below(40), numbers.below(20))] * 4)
        calls = [("lay", 0, 0, 2), ("lay", 1, 1, 3), ("put", o, numbers.below(256), numbers.below(256), *picture),
                 ("put", 1 - o, numbers.below(256), numbers.below(256), *picture)]
        if numbers.below(3) == 0:
            calls.append(("set_cell", o, numbers.below(256), numbers.below(256), 1))
        return calls + [("found", o, 1 - o), ("period", o, self.some_steps())]


class ManyLines(unittest.TestCase):
    def check(self, seed, names):
        """Compare a line's answers with the second reckoning; give the answers back beside their calls."""
        chosen = Chooser(seed, names).line()
        calls = line(*[CALLS[call[0]](*call[1:]) for call in chosen])
        self.assertLessEqual(len(calls), 30000)
        reckoning = Reckoning()
        expected = [[0], [0]] + [reckoning.answer(*call) for call in chosen]
        self.assertEqual(split(answers(calls)), expected, seed)
        return [(call[0], told[0]) for call, told in zip(chosen, expected[2:], strict=True)]

    def test_lines_of_the_first_calls(self):
        for seed in range(60):
            self.check(seed, FIRST_CALLS)

    def test_lines_of_all_calls(self):
        told = []
        for seed in range(100, 180):
            told += self.check(seed, ALL_CALLS)
        # The lines are worth little unless such answers come among them.
        seen = {name: {answer for called, answer in told if called == name} for name in CALLS}
        for name in ("rule", "set_cell", "get", "near", "put", "row", "steps", "period", "turn", "lay"):
            self.assertIn(-2, seen[name], name)
        self.assertIn(-1, seen["found"])
        self.assertGreater(len(seen["found"]), 30)
        self.assertGreater(len(seen["steps"]), 30)
        self.assertGreaterEqual(seen["period"], {-2, 0, 1, 2})


if __name__ == "__main__":
    unittest.main()

"""Many lines of calls, against a second reckoning that keeps the living cells one by one."""

import unittest

from closedsquare.desk import answers
from tests.lines import begin, get, line, near, put, row, rule, set_cell, split


class Numbers:
    """The same row of numbers at every run."""

    def __init__(self, seed):
        self.state = seed

    def below(self, bound):
        self.state = (self.state * 6364136223846793005 + 1442695040888963407) % 2 ** 64
        return (self.state >> 33) % bound

    def place(self):
        """A column or a row: mostly at an edge, and at times none at all."""
        return (0, 1, 254, 255, self.below(256), self.below(256), self.below(300) - 20)[self.below(7)]

    def size(self):
        return (0, 1, 7, 8, 9, 255, 256, self.below(20), self.below(257), self.below(300) - 20)[self.below(10)]


class Reckoning:
    def __init__(self):
        self.cells = (set(), set())

    def answer(self, name, o, *numbers):
        if name == "begin":
            self.cells[o].clear()
            return [0]
        if name == "rule":
            return [0] if all(number in range(512) for number in numbers) else [-2]
        if not all(number in range(256) for number in numbers[:1 if name == "row" else 2]):
            return [-2]
        return getattr(self, name)(self.cells[o], *numbers)

    def set_cell(self, cells, x, y, alive):
        cells.discard((x, y))
        if alive:
            cells.add((x, y))
        return [0]

    def get(self, cells, x, y):
        return [int((x, y) in cells)]

    def near(self, cells, x, y):
        around = [((x + dx) % 256, (y + dy) % 256) for dx in (-1, 0, 1) for dy in (-1, 0, 1) if dx or dy]
        return [len([place for place in around if place in cells])]

    def put(self, cells, x, y, w, h, picture):
        if w not in range(257) or h not in range(257):
            return [-2]
        wide = (w + 7) // 8
        for v in range(h):
            for u in range(w):
                alive = picture[v * wide + u // 8] >> (u % 8) & 1
                self.set_cell(cells, (x + u) % 256, (y + v) % 256, alive)
        return [0]

    def row(self, cells, y):
        return [0] + [sum(2 ** b for b in range(64) if (64 * k + b, y) in cells) for k in range(4)]


CALLS = {"begin": begin, "rule": rule, "set_cell": set_cell, "get": get, "near": near, "put": put, "row": row}


def some_picture(numbers, w, h, room):
    """Bytes for w and h, or None where the list has no room for them."""
    if w not in range(257) or h not in range(257):
        return []
    length = h * ((w + 7) // 8)
    if length > room:
        return None
    return [numbers.below(256) for k in range(length)]


def some_call(numbers, room):
    name = ("begin", "rule", "set_cell", "set_cell", "get", "get", "near", "near", "near", "put", "put", "put", "row",
            "row", "row")[numbers.below(15)]
    o = numbers.below(2)
    if name == "begin":
        # Most of the begins are left out: a square that is empty tells little.
        return (name, o) if numbers.below(4) == 0 else ("row", o, numbers.place())
    if name == "rule":
        return name, o, numbers.below(600) - 40, numbers.below(600) - 40
    if name == "row":
        return name, o, numbers.place()
    x, y = numbers.place(), numbers.place()
    if name == "set_cell":
        return name, o, x, y, numbers.below(5) - 2
    if name == "put":
        w, h = numbers.size(), numbers.size()
        picture = some_picture(numbers, w, h, room)
        return ("get", o, x, y) if picture is None else (name, o, x, y, w, h, picture)
    return name, o, x, y


def some_line(numbers):
    chosen = []
    room = 29000
    for k in range(38):
        call = some_call(numbers, min(room, 8192))
        chosen.append(call)
        room -= len(CALLS[call[0]](*call[1:]))
    return chosen


class ManyLines(unittest.TestCase):
    def test_the_answers_are_those_of_the_second_reckoning(self):
        for seed in range(60):
            chosen = some_line(Numbers(seed))
            calls = line(*[CALLS[call[0]](*call[1:]) for call in chosen])
            self.assertLessEqual(len(calls), 30000)
            reckoning = Reckoning()
            expected = [[0], [0]] + [reckoning.answer(*call) for call in chosen]
            self.assertEqual(split(answers(calls)), expected, seed)


if __name__ == "__main__":
    unittest.main()

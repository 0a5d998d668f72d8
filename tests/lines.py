"""Writes calls as they are handed over, and reads the answers call by call."""

from closedsquare.desk import answers

LEAST = -2 ** 31
MOST = 2 ** 31 - 1
# Numbers that are no column and no row.
OFF_SQUARE = (LEAST, -257, -256, -2, -1, 256, 257, 511, 512, 65536, MOST)
REFUSAL = [-2]


def begin(o):
    return [1, o]


def rule(o, born, stays):
    return [2, o, born, stays]


def set_cell(o, x, y, alive=1):
    return [3, o, x, y, alive]


def get(o, x, y):
    return [4, o, x, y]


def near(o, x, y):
    return [5, o, x, y]


def put(o, x, y, w, h, picture=()):
    return [6, o, x, y, w, h, len(picture)] + list(picture)


def row(o, y):
    return [7, o, y]


def line(*calls):
    """The list that is handed over: a begin of each square ahead of the calls."""
    numbers = begin(0) + begin(1)
    for call in calls:
        numbers.extend(call)
    return numbers


def split(told):
    """The answers, each a list of its numbers without the count."""
    found = []
    at = 0
    while at < len(told):
        end = at + 1 + told[at]
        if end > len(told):
            raise ValueError("an answer is shorter than its count says")
        found.append(told[at + 1:end])
        at = end
    return found


def ask(*calls):
    """The answers to the calls, without those to the two begins ahead of them."""
    told = split(answers(line(*calls)))
    if told[:2] != [[0], [0]] or len(told) != len(calls) + 2:
        raise ValueError("the begins are not answered, or a call is not")
    return told[2:]


def living(o, *calls):
    """All living cells (x, y) of square o after the calls, read through row.

    A line has 40 calls at most, so the calls are made anew for each few rows.
    """
    cells = set()
    rows_at_once = 38 - len(calls)
    for first in range(0, 256, rows_at_once):
        ys = range(first, min(first + rows_at_once, 256))
        told = ask(*calls, *[row(o, y) for y in ys])[len(calls):]
        for y, answer in zip(ys, told, strict=True):
            for x in range(256):
                if answer[1 + x // 64] >> (x % 64) & 1:
                    cells.add((x, y))
    return cells


def picture_bytes(w, h, cells, beyond=0):
    """A picture's bytes; the bits of each row's last byte beyond w are those of the number beyond."""
    wide = (w + 7) // 8
    told = []
    for y in range(h):
        bits = sum(1 << x for x in range(w) if (x, y) in cells) | beyond << w
        told.extend(bits >> 8 * k & 255 for k in range(wide))
    return told

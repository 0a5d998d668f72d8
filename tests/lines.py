"""Writes calls as they are handed over, and reads the answers call by call."""

from closedsquare.desk import answers

LEAST = -2 ** 31
MOST = 2 ** 31 - 1
# Numbers that are no column and no row.
OFF_SQUARE = (LEAST, -257, -256, -2, -1, 256, 257, 511, 512, 65536, MOST)
REFUSAL = [-2]


def begin(o):
    return [1, o]


def rule(o, born, stays):
    return [2, o, born, stays]


def set_cell(o, x, y, alive=1):
    return [3, o, x, y, alive]


def get(o, x, y):
    return [4, o, x, y]


def near(o, x, y):
    return [5, o, x, y]


def put(o, x, y, w, h, picture=()):
    return [6, o, x, y, w, h, len(picture)] + list(picture)


def row(o, y):
    return [7, o, y]


def steps(o, n):
    return [8, o, n]


def count(o):
    return [9, o]


def period(o, most):
    return [10, o, most]


def turn(o, how):
    return [11, o, how]


def lay(o, p, how):
    return [12, o, p, how]


def found(o, p):
    return [13, o, p]


def line(*calls):
    """The list that is handed over: a begin of each square ahead of the calls."""
    numbers = begin(0) + begin(1)
    for call in calls:
        numbers.extend(call)
    return numbers


def split(told):
    """The answers, each a list of its numbers without the count."""
    found = []
    at = 0
    while at < len(told):
        end = at + 1 + told[at]
        if end > len(told):
            raise ValueError("an answer is shorter than its count says")
        found.append(told[at + 1:end])
        at = end
    return found


def ask(*calls):
    """The answers to the calls, without those to the two begins ahead of them."""
    told = split(answers(line(*calls)))
    if told[:2] != [[0], [0]] or len(told) != len(calls) + 2:
        raise ValueError("the begins are not answered, or a call is not")
    return told[2:]


def living(o, *calls):
    """All living cells (x, y) of square o after the calls, read through row.

    A line has 40 calls at most, so the calls are made anew for each few rows.
    """
    cells = set()
    rows_at_once = 38 - len(calls)
    for first in range(0, 256, rows_at_once):
        ys = range(first, min(first + rows_at_once, 256))
        told = ask(*calls, *[row(o, y) for y in ys])[len(calls):]
        for y, answer in zip(ys, told, strict=True):
            for x in range(256):
                if answer[1 + x // 64] >> (x % 64) & 1:
                    cells.add((x, y))
    return cells


def picture_bytes(w, h, cells, beyond=0):
    """A picture's bytes; the bits of each row's last byte beyond w are those of the number beyond."""
    wide = (w + 7) // 8
    told = []
    for y in range(h):
        bits = sum(1 << x for x in range(w) if (x, y) in cells) | beyond << w
        told.extend(bits >> 8 * k & 255 for k in range(wide))
    return told


def put_cells(o, cells, x=0, y=0):
    """The call that puts the cells' smallest picture, moved by x and y, going round."""
    w = max(u for u, v in cells) + 1
    h = max(v for u, v in cells) + 1
    return put(o, x % 256, y % 256, w, h, picture_bytes(w, h, cells))


def drawn(*rows):
    """The cells of a picture that is drawn with O and dots."""
    return {(x, y) for y, signs in enumerate(rows) for x, sign in enumerate(signs) if sign == "O"}


def moved(cells, x, y):
    return {((u + x) % 256, (v + y) % 256) for u, v in cells}


def around(x, y):
    return [((x + u) % 256, (y + v) % 256) for u in (-1, 0, 1) for v in (-1, 0, 1) if u or v]


def stepped(cells, born, stays):
    """The living cells after one step, each cell asked by itself."""
    counts = {}
    for x, y in cells:
        for place in around(x, y):
            counts[place] = counts.get(place, 0) + 1
    return {(x, y) for x in range(256) for y in range(256)
            if (stays if (x, y) in cells else born) >> counts.get((x, y), 0) & 1}


def rule_of(o, *calls):
    """The rule of square o after the calls, as one step shows it: born and stays.

    Far from one another lie nine dead cells and below them nine living ones, with 0 to 8 living neighbours.
    """
    cells = set()
    for k in range(9):
        cells.update(around(5 + 10 * k, 5)[:k])
        cells.update(around(5 + 10 * k, 15)[:k])
        cells.add((5 + 10 * k, 15))
    told = ask(*calls, put(o, 0, 0, 96, 21, picture_bytes(96, 21, cells)), steps(o, 1), row(o, 5), row(o, 15))
    shown = [words[1] | words[2] << 64 for words in told[-2:]]
    return tuple(sum(1 << k for k in range(9) if bits >> 5 + 10 * k & 1) for bits in shown)

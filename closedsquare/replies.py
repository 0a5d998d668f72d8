"""What each call does and answers: a list of numbers, or the refusal's number alone."""

from closedsquare.rows import SIDE, words_of
from closedsquare.stepping import least_period, rows_after
from closedsquare.whole import laid, least_move, turned

DONE = 0
REFUSED = -2
MOST_RULE = 511
MOST_STEPS = 65536
MOST_TURN = 7
MOST_LAY = 3


def is_from_0_to(number, most):
    return number >= 0 and number <= most


def is_on_square(x, y):
    return is_from_0_to(x, SIDE - 1) and is_from_0_to(y, SIDE - 1)


def reply_to_rule(square, born, stays):
    if not (is_from_0_to(born, MOST_RULE) and is_from_0_to(stays, MOST_RULE)):
        return [REFUSED]
    square.born = born
    square.stays = stays
    return [DONE]


def reply_to_set(square, x, y, alive):
    if not is_on_square(x, y):
        return [REFUSED]
    square.set_cell(x, y, alive != 0)
    return [DONE]


def reply_to_get(square, x, y):
    if not is_on_square(x, y):
        return [REFUSED]
    return [square.cell(x, y)]


def reply_to_near(square, x, y):
    if not is_on_square(x, y):
        return [REFUSED]
    return [square.neighbours(x, y)]


def reply_to_put(square, x, y, w, h, picture):
    if not (is_on_square(x, y) and is_from_0_to(w, SIDE) and is_from_0_to(h, SIDE)):
        return [REFUSED]
    square.put_picture(x, y, w, h, picture)
    return [DONE]


def reply_to_row(square, y):
    if not is_from_0_to(y, SIDE - 1):
        return [REFUSED]
    return [DONE] + words_of(square.rows[y])


def reply_to_steps(square, n):
    if not is_from_0_to(n, MOST_STEPS):
        return [REFUSED]
    square.rows = rows_after(square.rows, square.born, square.stays, n)
    return [square.how_many_live()]


def reply_to_count(square):
    return [square.how_many_live()]


def reply_to_period(square, most):
    if not is_from_0_to(most, MOST_STEPS):
        return [REFUSED]
    return [least_period(square.rows, square.born, square.stays, most)]


def reply_to_turn(square, how):
    if not is_from_0_to(how, MOST_TURN):
        return [REFUSED]
    square.rows = turned(square.rows, how)
    return [DONE]


def reply_to_lay(square, other, how):
    if not is_from_0_to(how, MOST_LAY):
        return [REFUSED]
    square.rows = laid(square.rows, other.rows, how)
    return [DONE]


def reply_to_found(square, other):
    return [least_move(square.rows, other.rows)]

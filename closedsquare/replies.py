"""What each call about one square does and answers: a list of numbers, or the refusal's number alone."""

from closedsquare.cells import SIDE

DONE = 0
REFUSED = -2
MOST_RULE = 511


def is_from_0_to(number, most):
    return number >= 0 and number <= most


def is_on_square(x, y):
    return is_from_0_to(x, SIDE - 1) and is_from_0_to(y, SIDE - 1)


def reply_to_rule(square, born, stays):
    if not (is_from_0_to(born, MOST_RULE) and is_from_0_to(stays, MOST_RULE)):
        return [REFUSED]
    square.born = born
    square.stays = stays
    return [DONE]


def reply_to_set(square, x, y, alive):
    if not is_on_square(x, y):
        return [REFUSED]
    square.set_cell(x, y, alive != 0)
    return [DONE]


def reply_to_get(square, x, y):
    if not is_on_square(x, y):
        return [REFUSED]
    return [square.cell(x, y)]


def reply_to_near(square, x, y):
    if not is_on_square(x, y):
        return [REFUSED]
    return [square.neighbours(x, y)]


def reply_to_put(square, x, y, w, h, picture):
    if not (is_on_square(x, y) and is_from_0_to(w, SIDE) and is_from_0_to(h, SIDE)):
        return [REFUSED]
    square.put_picture(x, y, w, h, picture)
    return [DONE]


def reply_to_row(square, y):
    if not is_from_0_to(y, SIDE - 1):
        return [REFUSED]
    return [DONE] + square.row_words(y)

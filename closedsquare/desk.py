"""Takes a list of calls about two squares, one behind another, and gives back the list of their answers."""

from closedsquare.cells import Square
from closedsquare.replies import DONE, reply_to_count, reply_to_found, reply_to_get, reply_to_lay, reply_to_near
from closedsquare.replies import reply_to_period, reply_to_put, reply_to_row, reply_to_rule, reply_to_set
from closedsquare.replies import reply_to_steps, reply_to_turn

BEGIN = 1
RULE = 2
SET = 3
GET = 4
NEAR = 5
PUT = 6
ROW = 7
STEPS = 8
COUNT = 9
PERIOD = 10
LAY = 12
FOUND = 13

# How long a call is in the list, its own number counted; put's picture comes on top.
LENGTHS = {1: 2, 2: 4, 3: 5, 4: 4, 5: 4, 6: 7, 7: 3, 8: 3, 9: 2, 10: 3, 11: 3, 12: 4, 13: 3}


def call_length(calls, start):
    """How many numbers the call that begins at start has."""
    length = LENGTHS[calls[start]]
    if calls[start] == PUT:
        # The count ahead of the picture tells, not w and h: these may be out of their ranges.
        length += calls[start + length - 1]
    return length


def answer_about_one(square, call):
    """Carry out a call on the one square that it is about; the numbers that are answered."""
    number = call[0]
    if number == RULE:
        return reply_to_rule(square, call[2], call[3])
    if number == SET:
        return reply_to_set(square, call[2], call[3], call[4])
    if number == GET:
        return reply_to_get(square, call[2], call[3])
    if number == NEAR:
        return reply_to_near(square, call[2], call[3])
    if number == PUT:
        return reply_to_put(square, call[2], call[3], call[4], call[5], call[LENGTHS[PUT]:])
    if number == ROW:
        return reply_to_row(square, call[2])
    if number == STEPS:
        return reply_to_steps(square, call[2])
    if number == COUNT:
        return reply_to_count(square)
    if number == PERIOD:
        return reply_to_period(square, call[2])
    # Only turn is left: a number without a length has been stopped before.
    return reply_to_turn(square, call[2])


def answer_to(squares, call):
    """Carry out one call on the two squares; the numbers that are answered."""
    number = call[0]
    if number == BEGIN:
        squares[call[1]] = Square()
        return [DONE]
    square = squares[call[1]]
    if number == LAY:
        return reply_to_lay(square, squares[call[2]], call[3])
    if number == FOUND:
        return reply_to_found(square, squares[call[2]])
    return answer_about_one(square, call)


def answers(calls):
    """For each call, in order: how many numbers are answered, then these."""
    squares = [Square(), Square()]
    told = []
    start = 0
    while start < len(calls):
        end = start + call_length(calls, start)
        answer = answer_to(squares, calls[start:end])
        told.append(len(answer))
        told.extend(answer)
        start = end
    return told

"""What is done with all rows of a square at once: turned, laid on another's, found again as another's."""

from closedsquare.rows import SIDE, mirrored, moved_right

NOWHERE = -1
QUARTERS = 4
BOTH = 0
AT_LEAST_ONE = 1
JUST_ONE = 2


def quarter_turned(rows):
    """The rows turned by a quarter to the right: the uppermost row becomes the rightmost column."""
    columns = [0] * SIDE
    for cells in rows:
        # Each row moves those ahead of it on by one column, so that the first ends at the right edge.
        columns = [(column << 1) | ((cells >> x) & 1) for x, column in enumerate(columns)]
    return columns


def turned(rows, how):
    """The rows turned by how quarters to the right; from 4 on, left and right are exchanged first."""
    after = list(rows)
    if how >= QUARTERS:
        after = [mirrored(cells) for cells in after]
    for quarter in range(how % QUARTERS):
        after = quarter_turned(after)
    return after


def laid_row(cells, others, how):
    """The cells of a row after another is laid on it."""
    if how == BOTH:
        return cells & others
    if how == AT_LEAST_ONE:
        return cells | others
    if how == JUST_ONE:
        return cells ^ others
    # What is left: alive in the first row and not in the other.
    return cells ^ (cells & others)


def laid(rows, others, how):
    """The rows after others are laid on them."""
    return [laid_row(rows[y], others[y], how) for y in range(SIDE)]


def repeat_width(cells):
    """By how many columns at least a row must be moved to be as it is: 1 to 256."""
    # Such a width divides 256, so it is a power of two.
    width = 1
    while width < SIDE and moved_right(cells, width) != cells:
        width = width * 2
    return width


def least_right(cells, others):
    """The least dx for which cells, moved right by dx columns, are the others; NOWHERE if there is none."""
    for dx in range(SIDE):
        if moved_right(cells, dx) == others:
            return dx
    return NOWHERE


def least_move(rows, others):
    """The least 256 dy + dx for which the rows, moved right by dx and down by dy, are the others; else NOWHERE."""
    widths = [repeat_width(cells) for cells in others]
    # The greatest width is a multiple of all of them. So whichever dx fits this row, all the others' rows are the same
    # moved by the difference of two such dx: with a given dy, the least one fits everywhere or none does.
    y = widths.index(max(widths))
    for dy in range(SIDE):
        down = rows[SIDE - dy:] + rows[:SIDE - dy]
        dx = least_right(down[y], others[y])
        if dx != NOWHERE and [moved_right(cells, dx) for cells in down] == others:
            return SIDE * dy + dx
    return NOWHERE

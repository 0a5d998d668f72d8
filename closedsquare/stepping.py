"""From one step to the next: all rows of a square under a rule."""

from closedsquare.rows import FULL_ROW, SIDE, moved_right

MOST_NEIGHBOURS = 8


def rows_around(above, cells, below):
    """The eight neighbours of a row's cells: in each of the eight rows, one neighbour of every cell at its column."""
    around = [above, below]
    for near_row in (above, cells, below):
        around.append(moved_right(near_row, 1))
        around.append(moved_right(near_row, SIDE - 1))
    return around


def by_neighbours(around):
    """Nine rows: in the one with index k live the columns that have k living cells in the rows around."""
    exactly = [FULL_ROW] + [0] * MOST_NEIGHBOURS
    for alive in around:
        dead = FULL_ROW ^ alive
        fewer = [0] + exactly[:MOST_NEIGHBOURS]
        exactly = [(same & dead) | (less & alive) for same, less in zip(exactly, fewer)]
    return exactly


def next_row(above, cells, below, born, stays):
    """The cells of a row after one step."""
    after = 0
    for k, places in enumerate(by_neighbours(rows_around(above, cells, below))):
        if (stays >> k) & 1:
            after = after | (places & cells)
        if (born >> k) & 1:
            after = after | (places & (FULL_ROW ^ cells))
    return after


def next_rows(rows, born, stays):
    """The rows after one step, as a new list: every cell looks at its neighbours as they were."""
    # An index of -1 is the lowest row, which lies above the first.
    return [next_row(rows[y - 1], rows[y], rows[(y + 1) % SIDE], born, stays) for y in range(SIDE)]


def rows_after(rows, born, stays, n):
    """The rows after n steps."""
    for k in range(n):
        rows = next_rows(rows, born, stays)
    return rows


def least_period(rows, born, stays, most):
    """The least t from 1 to most for which the rows are after t steps as they are now; 0 if there is none."""
    later = rows
    for t in range(1, most + 1):
        later = next_rows(later, born, stays)
        if later == rows:
            return t
    return 0

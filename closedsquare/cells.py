"""A square of cells that closes on itself, and its rule."""

from closedsquare.rows import FULL_ROW, SIDE, joined_bytes, living_in_row, moved_right

FIRST_BORN = 8
FIRST_STAYS = 12


class Square:
    """256 rows from the top, each one whole number, and the rule."""

    def __init__(self):
        self.rows = [0] * SIDE
        self.born = FIRST_BORN
        self.stays = FIRST_STAYS

    def cell(self, x, y):
        return (self.rows[y] >> x) & 1

    def set_cell(self, x, y, alive):
        bit = 1 << x
        if alive:
            self.rows[y] = self.rows[y] | bit
        else:
            self.rows[y] = self.rows[y] & (FULL_ROW ^ bit)

    def neighbours(self, x, y):
        """How many of the eight cells around this one live."""
        living = 0
        for down in (-1, 0, 1):
            for right in (-1, 0, 1):
                living += self.cell((x + right) % SIDE, (y + down) % SIDE)
        # The walk above goes over the cell itself too, which is no neighbour of its own.
        return living - self.cell(x, y)

    def put_picture(self, x, y, w, h, picture):
        """Lay h rows of w cells with the first at column x, row y."""
        row_length = (w + 7) // 8
        # The last byte of a picture's row may hold bits beyond w: they are no cells.
        inside = (1 << w) - 1
        outside = FULL_ROW ^ moved_right(inside, x)
        for k in range(h):
            cells = joined_bytes(picture[k * row_length:(k + 1) * row_length]) & inside
            at = (y + k) % SIDE
            self.rows[at] = (self.rows[at] & outside) | moved_right(cells, x)

    def how_many_live(self):
        return sum([living_in_row(cells) for cells in self.rows])

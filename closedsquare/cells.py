"""A square of cells that closes on itself, and its rule."""

SIDE = 256
FULL_ROW = 0xFFFFFFFFFFFFFFFFFFFFFFFFFFFFFFFFFFFFFFFFFFFFFFFFFFFFFFFFFFFFFFFF
WORD_BITS = 64
FULL_WORD = 0xFFFFFFFFFFFFFFFF
FIRST_BORN = 8
FIRST_STAYS = 12


def moved_right(cells, columns):
    """A row's cells moved right by 0 to 255 columns; what leaves at the right edge comes in at the left."""
    shifted = cells << columns
    return (shifted & FULL_ROW) | (shifted >> SIDE)


def joined_bytes(row_bytes):
    """The cells of a picture's row as one whole number, the lowest bit of the first byte leftmost."""
    cells = 0
    for place, byte in enumerate(row_bytes):
        cells = cells | (byte << (8 * place))
    return cells


class Square:
    """256 rows; each is one whole number whose bit x is the cell of column x, so that a row moves in one step."""

    def __init__(self):
        self.rows = [0] * SIDE
        self.born = FIRST_BORN
        self.stays = FIRST_STAYS

    def cell(self, x, y):
        return (self.rows[y] >> x) & 1

    def set_cell(self, x, y, alive):
        bit = 1 << x
        if alive:
            self.rows[y] = self.rows[y] | bit
        else:
            self.rows[y] = self.rows[y] & (FULL_ROW ^ bit)

    def neighbours(self, x, y):
        """How many of the eight cells around this one live."""
        living = 0
        for down in (-1, 0, 1):
            for right in (-1, 0, 1):
                living += self.cell((x + right) % SIDE, (y + down) % SIDE)
        # The walk above goes over the cell itself too, which is no neighbour of its own.
        return living - self.cell(x, y)

    def put_picture(self, x, y, w, h, picture):
        """Lay h rows of w cells with the first at column x, row y."""
        row_length = (w + 7) // 8
        # The last byte of a picture's row may hold bits beyond w: they are no cells.
        inside = (1 << w) - 1
        outside = FULL_ROW ^ moved_right(inside, x)
        for k in range(h):
            cells = joined_bytes(picture[k * row_length:(k + 1) * row_length]) & inside
            at = (y + k) % SIDE
            self.rows[at] = (self.rows[at] & outside) | moved_right(cells, x)

    def row_words(self, y):
        """The row's cells, 64 in a number, from the left."""
        return [(self.rows[y] >> start) & FULL_WORD for start in range(0, SIDE, WORD_BITS)]

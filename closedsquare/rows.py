"""A row of cells as one whole number: bit x is the cell of column x, so that a row moves or is added up at once."""

SIDE = 256
FULL_ROW = 0xFFFFFFFFFFFFFFFFFFFFFFFFFFFFFFFFFFFFFFFFFFFFFFFFFFFFFFFFFFFFFFFF
WORD_BITS = 64
FULL_WORD = 0xFFFFFFFFFFFFFFFF

# A row in parts of so many cells each, and every other part of it, the leftmost among them.
PARTS = (
    (1, 0x5555555555555555555555555555555555555555555555555555555555555555),
    (2, 0x3333333333333333333333333333333333333333333333333333333333333333),
    (4, 0x0F0F0F0F0F0F0F0F0F0F0F0F0F0F0F0F0F0F0F0F0F0F0F0F0F0F0F0F0F0F0F0F),
    (8, 0x00FF00FF00FF00FF00FF00FF00FF00FF00FF00FF00FF00FF00FF00FF00FF00FF),
    (16, 0x0000FFFF0000FFFF0000FFFF0000FFFF0000FFFF0000FFFF0000FFFF0000FFFF),
    (32, 0x00000000FFFFFFFF00000000FFFFFFFF00000000FFFFFFFF00000000FFFFFFFF),
    (64, 0x0000000000000000FFFFFFFFFFFFFFFF0000000000000000FFFFFFFFFFFFFFFF),
    (128, 0x00000000000000000000000000000000FFFFFFFFFFFFFFFFFFFFFFFFFFFFFFFF),
)


def moved_right(cells, columns):
    """A row's cells moved right by 0 to 255 columns; what leaves at the right edge comes in at the left."""
    shifted = cells << columns
    return (shifted & FULL_ROW) | (shifted >> SIDE)


def mirrored(cells):
    """The row's cells with left and right exchanged: neighbouring cells, then neighbouring pairs, and so on."""
    for width, every_other in PARTS:
        cells = ((cells & every_other) << width) | ((cells >> width) & every_other)
    return cells


def living_in_row(cells):
    """How many of the row's cells live: each part holds its own sum, and two neighbouring sums become one."""
    for width, every_other in PARTS:
        cells = (cells & every_other) + ((cells >> width) & every_other)
    return cells


def joined_bytes(row_bytes):
    """The cells of a picture's row as one whole number, the lowest bit of the first byte leftmost."""
    cells = 0
    for place, byte in enumerate(row_bytes):
        cells = cells | (byte << (8 * place))
    return cells


def words_of(cells):
    """The row's cells, 64 in a number, from the left."""
    return [(cells >> start) & FULL_WORD for start in range(0, SIDE, WORD_BITS)]

"""Gardens: their squares, their inner sides, and the drawing that tells them."""

MOST = 10

ROW_END = 10
BLANK = 32
CORNER = 43
LEVEL = 45
UPRIGHT = 124

UPPER = 0
RIGHT = 1
LOWER = 2


class Garden:
    """hedges holds, for each inner side by its number, 1 for a hedge and 0 for a passage."""

    def __init__(self, wide, high, hedges):
        self.wide = wide
        self.high = high
        self.hedges = hedges


def drawn_wide(drawing):
    """How many squares wide the garden is, if its drawing is right: the first line tells it."""
    signs = 0
    while signs < len(drawing) and drawing[signs] != ROW_END:
        signs = signs + 1
    return signs // 2


def drawn_high(drawing, wide):
    """How many squares high the garden is, if its drawing is right: the count of lines tells it."""
    return len(drawing) // (2 * wide + 2) // 2


def size_fits(drawing, wide, high):
    """Whether a garden may be of this size, and its drawing is as long."""
    if wide < 1 or wide > MOST or high < 1 or high > MOST:
        return False
    return len(drawing) == (2 * high + 1) * (2 * wide + 2)


def sign_fits(wide, high, row, column, sign):
    """Whether a drawing of a garden of this size can have the sign there."""
    if column == 2 * wide + 1:
        return sign == ROW_END
    if row % 2 == 0 and column % 2 == 0:
        return sign == CORNER
    if row % 2 == 1 and column % 2 == 1:
        return sign == BLANK
    hedge = LEVEL if row % 2 == 0 else UPRIGHT
    if row == 0 or row == 2 * high or column == 0 or column == 2 * wide:
        return sign == hedge
    return sign == hedge or sign == BLANK


def signs_fit(drawing, wide, high):
    """Whether each sign of the drawing can stand where it does."""
    line = 2 * wide + 2
    for place in range(len(drawing)):
        if not sign_fits(wide, high, place // line, place % line, drawing[place]):
            return False
    return True


def drawn_hedges(drawing, wide, high):
    """The hedges of a right drawing, in the order of the inner sides."""
    line = 2 * wide + 2
    hedges = []
    for y in range(high):
        for x in range(wide - 1):
            sign = drawing[(2 * y + 1) * line + 2 * x + 2]
            hedges.append(1 if sign == UPRIGHT else 0)
    for y in range(high - 1):
        for x in range(wide):
            sign = drawing[(2 * y + 2) * line + 2 * x + 1]
            hedges.append(1 if sign == LEVEL else 0)
    return hedges


def read_garden(drawing):
    """The garden that is drawn, None if the drawing is at fault."""
    wide = drawn_wide(drawing)
    high = drawn_high(drawing, wide)
    if not size_fits(drawing, wide, high) or not signs_fit(drawing, wide, high):
        return None
    return Garden(wide, high, drawn_hedges(drawing, wide, high))


def square_count(garden):
    """How many squares the garden has."""
    return garden.wide * garden.high


def upright_side(garden, x, y):
    """The number of the inner side between squares (x, y) and (x + 1, y)."""
    return y * (garden.wide - 1) + x


def level_side(garden, x, y):
    """The number of the inner side between squares (x, y) and (x, y + 1)."""
    return garden.high * (garden.wide - 1) + y * garden.wide + x


def inner_side(garden, square, side):
    """The number of the inner side at this side of the square, None if the border is there."""
    x = square % garden.wide
    y = square // garden.wide
    if side == UPPER:
        return level_side(garden, x, y - 1) if y > 0 else None
    if side == RIGHT:
        return upright_side(garden, x, y) if x < garden.wide - 1 else None
    if side == LOWER:
        return level_side(garden, x, y) if y < garden.high - 1 else None
    return upright_side(garden, x - 1, y) if x > 0 else None


def is_passage(garden, square, side):
    """Whether one can go through this side of the square."""
    inner = inner_side(garden, square, side)
    return inner is not None and garden.hedges[inner] == 0


def square_beyond(garden, square, side):
    """The square beyond an inner side."""
    if side == UPPER:
        return square - garden.wide
    if side == RIGHT:
        return square + 1
    if side == LOWER:
        return square + garden.wide
    return square - 1


def level_sign(garden, x, y):
    """The sign between the corners above square (x, y); y is high for the lower border."""
    if y == 0 or y == garden.high or garden.hedges[level_side(garden, x, y - 1)] == 1:
        return LEVEL
    return BLANK


def upright_sign(garden, x, y):
    """The sign at the left of square (x, y)."""
    if x == 0 or garden.hedges[upright_side(garden, x - 1, y)] == 1:
        return UPRIGHT
    return BLANK


def level_line(garden, y):
    """The line of the drawing above the squares of row y; y is high for the last line."""
    line = []
    for x in range(garden.wide):
        line.extend([CORNER, level_sign(garden, x, y)])
    return line + [CORNER, ROW_END]


def square_line(garden, y):
    """The line of the drawing that the squares of row y lie in."""
    line = []
    for x in range(garden.wide):
        line.extend([upright_sign(garden, x, y), BLANK])
    return line + [UPRIGHT, ROW_END]


def draw(garden):
    """The bytes of the drawing of the garden as it stands."""
    drawing = level_line(garden, 0)
    for y in range(garden.high):
        drawing.extend(square_line(garden, y))
        drawing.extend(level_line(garden, y + 1))
    return drawing

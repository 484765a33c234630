"""The bytes of a change and of a session."""

from hedgerecord.changes import MOST_STEPS, REDO, SET, UNDO, Session, do_change, is_step, refusal
from hedgerecord.gardens import read_garden, square_count
from hedgerecord.sums import number_at, number_bytes, sum_of

SESSION_MARK = (0x4D, 0x5A, 0x53, 0x31)

CHANGE_SIZE = 8

# What a session has besides its drawing and its steps: mark, length, square, two counts, sum.
BARE_SIZE = 22


def change_bytes(change):
    """The 8 bytes of a change."""
    return [change[0], 0] + number_bytes(change[1], 2) + number_bytes(change[2], 2) + [0, 0]


def read_change(eight):
    """The change that 8 bytes tell, None if they tell none."""
    if eight[0] > REDO or eight[1] != 0 or eight[6] != 0 or eight[7] != 0:
        return None
    change = (eight[0], number_at(eight, 2, 2), number_at(eight, 4, 2))
    if change[0] != SET and change[2] != 0:
        return None
    if not is_step(change) and change[1] != 0:
        return None
    return change


def session_bytes(session):
    """The bytes of a session."""
    row = list(SESSION_MARK) + number_bytes(len(session.drawing), 4) + session.drawing
    row.extend(number_bytes(session.first, 2))
    row.extend(number_bytes(len(session.done), 4))
    row.extend(number_bytes(len(session.taken), 4))
    for step in session.done:
        row.extend(change_bytes(step))
    for step in reversed(session.taken):
        row.extend(change_bytes(step))
    return row + number_bytes(sum_of(row), 4)


def is_framed(row):
    """Whether the mark, the lengths and the sum are those of a session's bytes."""
    if len(row) < BARE_SIZE or row[0:4] != list(SESSION_MARK):
        return False
    size = number_at(row, 4, 4)
    if size > len(row) - BARE_SIZE:
        return False
    steps = number_at(row, size + 10, 4) + number_at(row, size + 14, 4)
    if steps > MOST_STEPS or len(row) != size + BARE_SIZE + steps * CHANGE_SIZE:
        return False
    return number_at(row, len(row) - 4, 4) == sum_of(row[0:len(row) - 4])


def do_steps(session, row):
    """Does the steps whose bytes these are; False if one of them can't be done."""
    for place in range(0, len(row), CHANGE_SIZE):
        step = read_change(row[place:place + CHANGE_SIZE])
        if step is None or not is_step(step) or refusal(session, step) != 0:
            return False
        do_change(session, step)
    return True


def read_session(row):
    """The session whose bytes these are, None if they are no right session's."""
    if not is_framed(row):
        return None
    size = number_at(row, 4, 4)
    drawing = row[8:size + 8]
    garden = read_garden(drawing)
    square = number_at(row, size + 8, 2)
    if garden is None or square >= square_count(garden):
        return None
    session = Session(drawing, garden, square)
    # The steps taken back must be such as can be done, too: so all are done, and then taken back.
    if not do_steps(session, row[size + 18:len(row) - 4]):
        return None
    for step in range(number_at(row, size + 14, 4)):
        do_change(session, (UNDO, 0, 0))
    return session

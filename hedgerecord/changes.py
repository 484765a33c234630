"""A session, and the changes of it: set, go, undo, redo.

A change is a tuple of three numbers: which of the four it is, and two more (set: the inner side,
1 or 0; go: the side, 0; undo and redo: 0, 0), just as its bytes tell them.
"""

from hedgerecord.gardens import is_passage, square_beyond

SET = 0
GO = 1
UNDO = 2
REDO = 3

MOST_STEPS = 200


class Session:
    """A garden and a walker in it, with the steps that led there.

    drawing and first are the garden and the square that it was begun with. before holds, for each
    step done, what it replaced: the hedge or passage of a set, the square of a go. The step that
    would be done again next is the last one of taken.
    """

    def __init__(self, drawing, garden, square):
        self.drawing = drawing
        self.first = square
        self.garden = garden
        self.square = square
        self.done = []
        self.before = []
        self.taken = []


def is_step(change):
    """Whether the change is a step, not undo or redo."""
    return change[0] == SET or change[0] == GO


def step_refusal(session, step):
    """Why a step can't be done, as the calls answer it; 0 if it can."""
    if step[0] == SET:
        if step[2] > 1:
            return -1
        if step[1] >= len(session.garden.hedges):
            return -4
    else:
        if step[1] > 3:
            return -1
        if not is_passage(session.garden, session.square, step[1]):
            return -4
    if len(session.done) >= MOST_STEPS:
        return -3
    return 0


def refusal(session, change):
    """Why a change can't be done, as the calls answer it; 0 if it can."""
    if is_step(change):
        return step_refusal(session, change)
    steps = session.done if change[0] == UNDO else session.taken
    return 0 if len(steps) > 0 else -5


def do_step(session, step):
    """Does a step that can be done."""
    if step[0] == SET:
        session.before.append(session.garden.hedges[step[1]])
        session.garden.hedges[step[1]] = step[2]
    else:
        session.before.append(session.square)
        session.square = square_beyond(session.garden, session.square, step[1])
    session.done.append(step)


def take_back(session):
    """Takes the last step back."""
    step = session.done.pop()
    before = session.before.pop()
    if step[0] == SET:
        session.garden.hedges[step[1]] = before
    else:
        session.square = before
    session.taken.append(step)


def do_change(session, change):
    """Does a change that can be done."""
    if is_step(change):
        do_step(session, change)
        session.taken = []
    elif change[0] == UNDO:
        take_back(session)
    else:
        do_step(session, session.taken.pop())


def trail(session):
    """The first square, then behind each step gone the square come to."""
    square = session.first
    squares = [square]
    for step in session.done:
        if step[0] == GO:
            square = square_beyond(session.garden, square, step[1])
            squares.append(square)
    return squares

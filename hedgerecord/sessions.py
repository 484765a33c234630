"""The calls on a record, and their answers."""

from hedgerecord.changes import GO, REDO, SET, UNDO, Session, refusal, trail
from hedgerecord.gardens import draw, read_garden, square_count
from hedgerecord.journals import NOTE_SIZE, begin_anew, beginning_size, begun, note, play_notes, read_beginning
from hedgerecord.ways import distances, passage_count, ring_count, room_count
from hedgerecord.writing import read_session, session_bytes

BEGIN_CALL = 1
LOAD_CALL = 2
PLAY_CALL = 3
SET_CALL = 4
GO_CALL = 5
UNDO_CALL = 6
REDO_CALL = 7
DRAWN_CALL = 8
COUNTS_CALL = 9
HOME_CALL = 10
TRAIL_CALL = 11
SAVE_CALL = 12
HEAD_CALL = 13

MOST_DRAWING = 1024
MOST_BYTES = 16384


class UnknownCall(ValueError):
    """There is no call with this number."""


class Record:
    """journal is None as long as the record holds no session."""

    def __init__(self):
        self.journal = None


def answer_begin(record, square, drawing):
    """The answer to begin."""
    if len(drawing) > MOST_DRAWING:
        return [-2]
    garden = read_garden(drawing)
    if garden is None:
        return [-6]
    if square >= square_count(garden):
        return [-4]
    record.journal = begun(Session(drawing, garden, square))
    return [0]


def answer_load(record, row):
    """The answer to load."""
    if len(row) > MOST_BYTES:
        return [-2]
    session = read_session(row)
    if session is None:
        return [-9]
    record.journal = begun(session)
    return [0]


def answer_play(record, row):
    """The answer to play."""
    if len(row) > MOST_BYTES:
        return [-2]
    journal = read_beginning(row)
    if journal is None:
        return [-9]
    size = beginning_size(row)
    played = play_notes(journal, row[size:])
    record.journal = journal
    return [0, played, size + played * NOTE_SIZE]


def answer_change(journal, change):
    """The answer to set, go, undo or redo."""
    refused = refusal(journal.session, change)
    if refused != 0:
        return [refused]
    return [0] + note(journal, change)


def read_change_call(call):
    """The change that a call of set, go, undo or redo asks for, None if it is another call."""
    if call[0] == SET_CALL:
        return (SET, call[1], call[2])
    if call[0] == GO_CALL:
        return (GO, call[1], 0)
    if call[0] == UNDO_CALL:
        return (UNDO, 0, 0)
    if call[0] == REDO_CALL:
        return (REDO, 0, 0)
    return None


def answer_counts(session):
    """The answer to counts."""
    garden = session.garden
    told = [0, garden.wide, garden.high, passage_count(garden), room_count(garden), ring_count(garden)]
    return told + [session.square, len(session.done), len(session.taken)]


def answer_home(session):
    """The answer to home."""
    steps = distances(session.garden, session.square).get(session.first)
    return [-5] if steps is None else [0, steps]


def answer_question(journal, number):
    """The answer to drawn, counts, home, trail, save or head."""
    session = journal.session
    if number == DRAWN_CALL:
        return [0] + draw(session.garden)
    if number == COUNTS_CALL:
        return answer_counts(session)
    if number == HOME_CALL:
        return answer_home(session)
    if number == TRAIL_CALL:
        return [0] + trail(session)
    if number == SAVE_CALL:
        return [0] + session_bytes(session)
    if number == HEAD_CALL:
        return [0] + begin_anew(journal)
    raise UnknownCall()


def answer_call(record, call):
    """The answer to one call, and what it does to the record."""
    if call[0] == BEGIN_CALL:
        return answer_begin(record, call[1], call[3:])
    if call[0] == LOAD_CALL:
        return answer_load(record, call[2:])
    if call[0] == PLAY_CALL:
        return answer_play(record, call[2:])
    if record.journal is None:
        return [-10]
    change = read_change_call(call)
    if change is None:
        return answer_question(record.journal, call[0])
    return answer_change(record.journal, change)


def call_size(calls, place):
    """How many numbers the call has that begins at this place."""
    number = calls[place]
    if number == BEGIN_CALL:
        return 3 + calls[place + 2]
    if number == LOAD_CALL or number == PLAY_CALL:
        return 2 + calls[place + 1]
    if number == SET_CALL:
        return 3
    if number == GO_CALL:
        return 2
    return 1


def answers(calls):
    """The answers to calls on a new record, each with how many numbers it has before it."""
    record = Record()
    told = []
    place = 0
    while place < len(calls):
        size = call_size(calls, place)
        answer = answer_call(record, calls[place:place + size])
        told.append(len(answer))
        told.extend(answer)
        place = place + size
    return told

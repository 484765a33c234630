"""The calls on a record, and their answers."""

from hedgerecord.changes import GO, REDO, SET, UNDO, Session, refusal
from hedgerecord.gardens import read_garden, square_count
from hedgerecord.journals import NOTE_SIZE, begun, beginning_size, note, play_notes, read_beginning
from hedgerecord.writing import read_session

BEGIN_CALL = 1
LOAD_CALL = 2
PLAY_CALL = 3
SET_CALL = 4
GO_CALL = 5
UNDO_CALL = 6
REDO_CALL = 7

MOST_DRAWING = 1024
MOST_BYTES = 16384


class UnknownCall(ValueError):
    """There is no call with this number."""


class Record:
    """journal is None as long as the record holds no session."""

    def __init__(self):
        self.journal = None


def answer_begin(record, square, drawing):
    """The answer to begin."""
    if len(drawing) > MOST_DRAWING:
        return [-2]
    garden = read_garden(drawing)
    if garden is None:
        return [-6]
    if square >= square_count(garden):
        return [-4]
    record.journal = begun(Session(drawing, garden, square))
    return [0]


def answer_load(record, row):
    """The answer to load."""
    if len(row) > MOST_BYTES:
        return [-2]
    session = read_session(row)
    if session is None:
        return [-9]
    record.journal = begun(session)
    return [0]


def answer_play(record, row):
    """The answer to play."""
    if len(row) > MOST_BYTES:
        return [-2]
    journal = read_beginning(row)
    if journal is None:
        return [-9]
    size = beginning_size(row)
    played = play_notes(journal, row[size:])
    record.journal = journal
    return [0, played, size + played * NOTE_SIZE]


def answer_change(record, change):
    """The answer to set, go, undo or redo."""
    refused = refusal(record.journal.session, change)
    if refused != 0:
        return [refused]
    return [0] + note(record.journal, change)


def read_call(call):
    """The change that a call of set, go, undo or redo asks for."""
    if call[0] == SET_CALL:
        return (SET, call[1], call[2])
    if call[0] == GO_CALL:
        return (GO, call[1], 0)
    if call[0] == UNDO_CALL:
        return (UNDO, 0, 0)
    if call[0] == REDO_CALL:
        return (REDO, 0, 0)
    raise UnknownCall()


def answer_call(record, call):
    """The answer to one call, and what it does to the record."""
    if call[0] == BEGIN_CALL:
        return answer_begin(record, call[1], call[3:])
    if call[0] == LOAD_CALL:
        return answer_load(record, call[2:])
    if call[0] == PLAY_CALL:
        return answer_play(record, call[2:])
    if record.journal is None:
        return [-10]
    return answer_change(record, read_call(call))


def call_size(calls, place):
    """How many numbers the call has that begins at this place."""
    number = calls[place]
    if number == BEGIN_CALL:
        return 3 + calls[place + 2]
    if number == LOAD_CALL or number == PLAY_CALL:
        return 2 + calls[place + 1]
    if number == SET_CALL:
        return 3
    if number == GO_CALL:
        return 2
    return 1


def answers(calls):
    """The answers to calls on a new record, each with how many numbers it has before it."""
    record = Record()
    told = []
    place = 0
    while place < len(calls):
        size = call_size(calls, place)
        answer = answer_call(record, calls[place:place + size])
        told.append(len(answer))
        told.extend(answer)
        place = place + size
    return told

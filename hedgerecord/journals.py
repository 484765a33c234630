"""The journal: its beginning, its notes, and how it is played."""

from hedgerecord.changes import do_change, refusal
from hedgerecord.sums import ALL_BITS, finished, number_at, number_bytes, sum_on
from hedgerecord.writing import CHANGE_SIZE, change_bytes, read_change, read_session, session_bytes

JOURNAL_MARK = (0x4D, 0x5A, 0x4A, 0x31)

# What stands before the session's bytes: the mark and their length.
MARK_SIZE = 8

NOTE_SIZE = 12


class Journal:
    """A session whose changes are noted.

    running is the unfinished sum of the journal's beginning and of all changes noted: the bytes
    themselves are with whom they were answered to, and not needed again.
    """

    def __init__(self, session, running):
        self.session = session
        self.running = running


def beginning(session):
    """The bytes of the beginning of a journal that begins from this session."""
    row = session_bytes(session)
    return list(JOURNAL_MARK) + number_bytes(len(row), 4) + row


def begin_anew(journal):
    """Begins the journal anew from its session as it is, and gives back the beginning's bytes."""
    head = beginning(journal.session)
    journal.running = sum_on(ALL_BITS, head)
    return head


def begun(session):
    """A journal that begins from this session."""
    journal = Journal(session, ALL_BITS)
    begin_anew(journal)
    return journal


def note(journal, change):
    """Does a change that can be done, and gives back the 12 bytes of its note."""
    eight = change_bytes(change)
    do_change(journal.session, change)
    journal.running = sum_on(journal.running, eight)
    return eight + number_bytes(finished(journal.running), 4)


def beginning_size(row):
    """How many bytes the beginning has that stands at the front, 0 if none can stand there."""
    if len(row) < MARK_SIZE or row[0:4] != list(JOURNAL_MARK):
        return 0
    size = MARK_SIZE + number_at(row, 4, 4)
    return size if size <= len(row) else 0


def read_beginning(row):
    """The journal with the beginning that stands at the front, None if none stands there."""
    size = beginning_size(row)
    if size == 0:
        return None
    session = read_session(row[MARK_SIZE:size])
    if session is None:
        return None
    return begun(session)


def is_playable(journal, twelve):
    """Whether these are a whole note with its sum, of a change that can be done."""
    if len(twelve) < NOTE_SIZE:
        return False
    eight = twelve[0:CHANGE_SIZE]
    if number_at(twelve, CHANGE_SIZE, 4) != finished(sum_on(journal.running, eight)):
        return False
    change = read_change(eight)
    return change is not None and refusal(journal.session, change) == 0


def play_notes(journal, row):
    """Plays as many notes as stand whole at the front, and gives back how many."""
    played = 0
    place = 0
    while is_playable(journal, row[place:place + NOTE_SIZE]):
        note(journal, read_change(row[place:place + CHANGE_SIZE]))
        played = played + 1
        place = place + NOTE_SIZE
    return played

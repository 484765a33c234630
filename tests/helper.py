"""What the tests share: calls as lists of numbers, and a second telling of the document.

The second telling is written in another way than the program (text patterns, struct, a table for
the sum, every state found by doing all steps from the beginning), so that both are not wrong alike.
"""

import functools
import re
import struct
import unittest

from hedgerecord.sessions import Record, answer_call, answers

LARGEST = 4294967295


class Case(unittest.TestCase):
    """A test case that tells where long lists differ; unittest would take minutes to line them up."""

    def __init__(self, *args):
        super().__init__(*args)
        self.addTypeEqualityFunc(list, self.check_lists)
        self.addTypeEqualityFunc(dict, self.check_dicts)

    def check_lists(self, first, second, msg=None):
        if first != second:
            place = 0
            while first[place:place + 1] == second[place:place + 1]:
                place += 1
            parts = [repr(row[place:place + 20])[:300] for row in (first, second)]
            self.fail(self._formatMessage(msg, f"from place {place} on {parts[0]} and {parts[1]}"))

    def check_dicts(self, first, second, msg=None):
        if first != second:
            names = [name for name in {**first, **second} if first.get(name) != second.get(name)]
            parts = [repr([state.get(name) for name in names])[:300] for state in (first, second)]
            self.fail(self._formatMessage(msg, f"in {names} {parts[0]} and {parts[1]}"))


# Gardens and their drawings

def inner_sides(wide, high):
    """The pairs of squares that the inner sides lie between, in their order."""
    pairs = []
    for y in range(high):
        for x in range(wide - 1):
            pairs.append((y * wide + x, y * wide + x + 1))
    for y in range(high - 1):
        for x in range(wide):
            pairs.append((y * wide + x, (y + 1) * wide + x))
    return pairs


def drawing_text(wide, high, hedges):
    grid = [["+" if r % 2 == 0 and c % 2 == 0 else " " for c in range(2 * wide + 1)] for r in range(2 * high + 1)]
    for x in range(wide):
        grid[0][2 * x + 1] = grid[2 * high][2 * x + 1] = "-"
    for y in range(high):
        grid[2 * y + 1][0] = grid[2 * y + 1][2 * wide] = "|"
    for (a, b), hedge in zip(inner_sides(wide, high), hedges, strict=True):
        r = a // wide + b // wide + 1
        c = a % wide + b % wide + 1
        if hedge:
            grid[r][c] = "|" if r % 2 == 1 else "-"
    return "".join("".join(row) + "\n" for row in grid)


def drawing(wide, high, hedges=None):
    """The bytes of a drawing; without hedges all inner sides are passages."""
    if hedges is None:
        hedges = [0] * len(inner_sides(wide, high))
    return list(drawing_text(wide, high, hedges).encode("ascii"))


def text_bytes(text):
    return list(text.encode("latin-1"))


def garden_of(row):
    """(wide, high, hedges) of a drawing, or None."""
    return garden_of_text(bytes(row).decode("latin-1"))


@functools.lru_cache(maxsize=100)
def garden_of_text(text):
    # Kept, as the second telling asks for the same garden over and over.
    lines = text.split("\n")
    if lines.pop() != "" or len(lines) % 2 == 0 or not 3 <= len(lines) <= 21:
        return None
    high = len(lines) // 2
    wide = len(lines[0]) // 2
    if not 1 <= wide <= 10:
        return None
    edge = r"\+(-\+){%d}" % wide
    if not re.fullmatch(edge, lines[0]) or not re.fullmatch(edge, lines[-1]):
        return None
    if not all(re.fullmatch(r"\| ([| ] ){%d}\|" % (wide - 1), line) for line in lines[1::2]):
        return None
    if not all(re.fullmatch(r"\+([- ]\+){%d}" % wide, line) for line in lines[2:-1:2]):
        return None
    signs = "".join(line[2:-1:2] for line in lines[1::2]) + "".join(line[1::2] for line in lines[2:-1:2])
    return wide, high, tuple(0 if sign == " " else 1 for sign in signs)


# Bytes

def make_table():
    table = []
    for number in range(256):
        for _ in range(8):
            number = number >> 1 ^ (0x82F63B78 if number & 1 else 0)
        table.append(number)
    return table


TABLE = make_table()


def crc(row):
    running = 0xFFFFFFFF
    for byte in row:
        running = running >> 8 ^ TABLE[(running ^ byte) & 255]
    return running ^ 0xFFFFFFFF


def four(number):
    return list(struct.pack("<I", number))


def summed(row):
    return row + four(crc(row))


def change_row(kind, a=0, b=0):
    return list(struct.pack("<BBHHBB", kind, 0, a, b, 0, 0))


def set_row(p, z):
    return change_row(0, p, z)


def go_row(k):
    return change_row(1, k)


UNDO_ROW = change_row(2)
REDO_ROW = change_row(3)


def session_row(garden, square=0, done=(), taken=()):
    """A session's bytes, right or not: garden is a drawing, done and taken are lists of 8 bytes."""
    row = [0x4D, 0x5A, 0x53, 0x31] + four(len(garden)) + garden + list(struct.pack("<H", square))
    row += four(len(done)) + four(len(taken))
    for step in list(done) + list(taken):
        row += step
    return summed(row)


def head_row(session):
    return [0x4D, 0x5A, 0x4A, 0x31] + four(len(session)) + session


def note_rows(head, changes):
    """The notes of changes (8 bytes each) in a journal that begins so."""
    so_far = list(head)
    notes = []
    for change in changes:
        so_far += change
        notes.append(change + four(crc(so_far)))
    return notes


def journal_row(session, changes):
    head = head_row(session)
    return head + [byte for note in note_rows(head, changes) for byte in note]


# Calls

def begin(garden, square=0):
    return [1, square, len(garden)] + garden


def load(row):
    return [2, len(row)] + row


def play(row):
    return [3, len(row)] + row


def set_hedge(p, z):
    return [4, p, z]


def go(k):
    return [5, k]


UNDO = [6]
REDO = [7]
DRAWN = [8]
COUNTS = [9]
HOME = [10]
TRAIL = [11]
SAVE = [12]
HEAD = [13]
QUESTIONS = (DRAWN, COUNTS, HOME, TRAIL, SAVE, HEAD)


def split(told):
    rows = []
    place = 0
    while place < len(told):
        rows.append(told[place + 1:place + 1 + told[place]])
        if told[place] < 1 or len(rows[-1]) != told[place]:
            raise ValueError("the counts of the answers don't fit")
        place += 1 + told[place]
    return rows


def run(*calls):
    """The answers to these calls, a list each."""
    rows = split(answers([number for call in calls for number in call]))
    if len(rows) != len(calls):
        raise ValueError("not an answer a call")
    return rows


def firsts(*calls):
    return [row[0] for row in run(*calls)]


def told_behind(calls, question):
    """What the question answers behind these calls, without the 0; the refusal if it is one."""
    answer = run(*calls, question)[-1]
    return answer[1:] if answer[0] == 0 else answer[0]


# The program's own state, to see that nothing is changed that no answer tells

def held(record):
    """All that the record holds, copied."""
    if record.journal is None:
        return None
    session = record.journal.session
    return {
        "drawing": list(session.drawing), "first": session.first,
        "size": (session.garden.wide, session.garden.high), "hedges": list(session.garden.hedges),
        "square": session.square, "done": list(session.done), "before": list(session.before),
        "taken": list(session.taken), "running": record.journal.running,
    }


def record_behind(*calls):
    record = Record()
    for call in calls:
        answer_call(record, list(call))
    return record


def held_behind(*calls):
    return held(record_behind(*calls))


def seen(state):
    """What a session is, whichever journal notes it."""
    return {name: value for name, value in state.items() if name != "running"}


# The record told a second time

class Model:
    """Keeps the garden at first and the steps; whatever else is asked is found from the beginning."""

    def __init__(self):
        self.first = None
        self.done = []
        self.taken = []
        self.noted = []

    def answer(self, call):
        if call[0] == 1:
            return self.begin(call[3:], call[1])
        if call[0] == 2:
            return self.load(call[2:])
        if call[0] == 3:
            return self.play(call[2:])
        if self.first is None:
            return [-10]
        if call[0] > 7:
            return self.question(call[0])
        change = {4: (0,) + tuple(call[1:]), 5: (1,) + tuple(call[1:]) + (0,), 6: (2, 0, 0), 7: (3, 0, 0)}[call[0]]
        refused = self.refused(change)
        return [refused] if refused else [0] + self.change(change)

    def state(self, steps=None):
        """Hedges by pair of squares, and the walker's square."""
        wide, high, hedges = garden_of(self.first[0])
        pairs = inner_sides(wide, high)
        stand = dict(zip(pairs, hedges))
        square = self.first[1]
        for kind, a, b in self.done if steps is None else steps:
            if kind == 0:
                stand[pairs[a]] = b
            else:
                square = self.beyond(stand, square, a)
        return stand, square

    def beyond(self, stand, square, side):
        wide = garden_of(self.first[0])[0]
        other = square + [-wide, 1, wide, -1][side]
        pair = (min(square, other), max(square, other))
        # In a garden one square wide the next square is below, not at the right.
        if wide == 1 and side in (1, 3):
            return None
        return None if stand.get(pair, 1) else other

    def refused(self, change):
        kind, a, b = change
        if kind > 1:
            return 0 if (self.done if kind == 2 else self.taken) else -5
        if (b if kind == 0 else a) > (1 if kind == 0 else 3):
            return -1
        stand, square = self.state()
        if a >= len(stand) if kind == 0 else self.beyond(stand, square, a) is None:
            return -4
        return -3 if len(self.done) == 200 else 0

    def change(self, change):
        if change[0] == 2:
            self.taken.insert(0, self.done.pop())
        elif change[0] == 3:
            self.done.append(self.taken.pop(0))
        else:
            self.done.append(change)
            self.taken = []
        row = change_row(*change)
        self.noted += row
        return row + four(crc(self.noted))

    def question(self, number):
        if number == 8:
            return [0] + self.drawn()
        if number == 9:
            return [0] + self.counts()
        if number == 10:
            steps = self.steps_home()
            return [-5] if steps is None else [0, steps]
        if number == 11:
            return [0] + self.trail()
        if number == 12:
            return [0] + self.saved()
        self.noted = head_row(self.saved())
        return [0] + self.noted

    def drawn(self):
        wide, high, _ = garden_of(self.first[0])
        return list(drawing_text(wide, high, self.state()[0].values()).encode("ascii"))

    def passages(self):
        return [pair for pair, hedge in self.state()[0].items() if not hedge]

    def counts(self):
        """Rooms by joining the squares of each passage, rings as the passages that joined nothing new."""
        wide, high, _ = garden_of(self.first[0])
        room = list(range(wide * high))
        rings = 0
        for a, b in self.passages():
            rings += room[a] == room[b]
            room = [room[a] if number == room[b] else number for number in room]
        return [wide, high, len(self.passages()), len(set(room)), rings, self.state()[1], len(self.done),
                len(self.taken)]

    def steps_home(self):
        """Shortened passage by passage until nothing can be shortened any more."""
        far = {self.first[1]: 0}
        passages = self.passages()
        changed = True
        while changed:
            changed = False
            for a, b in passages + [(b, a) for a, b in passages]:
                if a in far and far.get(b, 1000) > far[a] + 1:
                    far[b] = far[a] + 1
                    changed = True
        return far.get(self.state()[1])

    def trail(self):
        gone = [size + 1 for size, step in enumerate(self.done) if step[0] == 1]
        return [self.first[1]] + [self.state(self.done[:size])[1] for size in gone]

    def saved(self):
        return session_row(self.first[0], self.first[1], [change_row(*step) for step in self.done],
                           [change_row(*step) for step in self.taken])

    def begin(self, garden, square):
        if len(garden) > 1024:
            return [-2]
        if garden_of(garden) is None:
            return [-6]
        wide, high, _ = garden_of(garden)
        if square >= wide * high:
            return [-4]
        self.first = (garden, square)
        self.done = []
        self.taken = []
        self.noted = head_row(self.saved())
        return [0]

    def load(self, row):
        if len(row) > 16384:
            return [-2]
        new = read(row)
        if new is None:
            return [-9]
        self.first, self.done, self.taken = new.first, new.done, new.taken
        self.noted = head_row(row)
        return [0]

    def play(self, row):
        if len(row) > 16384:
            return [-2]
        size = 8 + struct.unpack("<I", bytes(row[4:8]))[0] if len(row) >= 8 else 8
        if row[:4] != [0x4D, 0x5A, 0x4A, 0x31] or len(row) < size or self.load(row[8:size]) != [0]:
            return [-9]
        played = 0
        while len(row) >= size + 12:
            kind, nil, a, b, nought, last = struct.unpack("<BBHHBB", bytes(row[size:size + 8]))
            so_far = self.noted + row[size:size + 8]
            fits = kind < 4 and not (nil or nought or last or kind and b or kind > 1 and a)
            if not fits or row[size + 8:size + 12] != four(crc(so_far)) or self.refused((kind, a, b)):
                break
            self.change((kind, a, b))
            played += 1
            size += 12
        return [0, played, size]


def read(row):
    """A model that holds the session of these bytes, or None."""
    text = bytes(row)
    if len(text) < 22 or text[:4] != b"MZS1" or summed(row[:-4]) != row:
        return None
    size = struct.unpack("<I", text[4:8])[0]
    if size + 22 > len(text):
        return None
    square, done, taken = struct.unpack("<HII", text[size + 8:size + 18])
    steps = text[size + 18:-4]
    if done + taken > 200 or len(steps) != 8 * (done + taken):
        return None
    model = Model()
    if model.begin(row[8:size + 8], square) != [0]:
        return None
    for kind, nil, a, b, nought, last in struct.iter_unpack("<BBHHBB", steps):
        if kind > 1 or nil or nought or last or kind and b or model.refused((kind, a, b)):
            return None
        model.change((kind, a, b))
    model.taken = model.done[done:]
    model.done = model.done[:done]
    return model

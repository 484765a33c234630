"""Ways through a garden: how far they are, and the rooms and rings that they make."""

from hedgerecord.gardens import is_passage, square_beyond, square_count

SIDES = 4


def squares_beside(garden, square):
    """The squares that one step leads to."""
    return [square_beyond(garden, square, side) for side in range(SIDES) if is_passage(garden, square, side)]


def distances(garden, start):
    """How far it is from the start to each square that a way leads to, by square."""
    far = {start: 0}
    reached = [start]
    place = 0
    # Nearer squares are gone on from first, so a square is first reached by the fewest steps.
    while place < len(reached):
        square = reached[place]
        for other in squares_beside(garden, square):
            if other not in far:
                far[other] = far[square] + 1
                reached.append(other)
        place = place + 1
    return far


def passage_count(garden):
    """How many passages the garden has."""
    return garden.hedges.count(0)


def room_count(garden):
    """How many rooms the garden has."""
    rooms = 0
    joined = {}
    for square in range(square_count(garden)):
        if square not in joined:
            rooms = rooms + 1
            joined.update(distances(garden, square))
    return rooms


def ring_count(garden):
    """How many rings the garden has."""
    return passage_count(garden) + room_count(garden) - square_count(garden)

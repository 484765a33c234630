"""Numbers as bytes, lowest byte first, and the sum CRC-32C."""

ALL_BITS = 0xFFFFFFFF
TURN = 0x82F63B78


def number_bytes(number, size):
    """The number as so many bytes."""
    row = []
    for place in range(size):
        row.append(number % 256)
        number = number // 256
    return row


def number_at(row, place, size):
    """The number that so many bytes tell, from this place on."""
    number = 0
    for behind in range(size):
        number = number * 256 + row[place + size - 1 - behind]
    return number


def sum_on(running, row):
    """The running sum behind these bytes.

    It is left unfinished, so that a journal can go on with it note by note.
    """
    for byte in row:
        running = running ^ byte
        for bit in range(8):
            if running % 2 == 1:
                running = (running // 2) ^ TURN
            else:
                running = running // 2
    return running


def finished(running):
    """The sum that a running sum comes to if nothing follows."""
    return running ^ ALL_BITS


def sum_of(row):
    """The sum of these bytes."""
    return finished(sum_on(ALL_BITS, row))

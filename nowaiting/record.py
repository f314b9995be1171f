"""Records, and the bytes that stand for them."""

NUMBER_BYTES = 8

# Where a record has each of its five numbers.
WHOSE = 0
COUNT = 1
DEED = 2
V = 3
W = 4


def number_bytes(number):
    """Give the 8 bytes of a number of 64 bits, the lowest first."""
    row = []
    rest = number
    while len(row) < NUMBER_BYTES:
        row.append(rest % 256)
        rest = rest // 256
    return row


def number_of_bytes(row):
    number = 0
    for byte in reversed(row):
        number = 256 * number + byte
    return number


def record_bytes(record):
    """Give the 40 bytes of a record of five numbers."""
    row = []
    for number in record:
        row.extend(number_bytes(number))
    return row


def record_of_bytes(row):
    """Give the record of five numbers that 40 bytes stand for."""
    return tuple([number_of_bytes(row[at:at + NUMBER_BYTES]) for at in range(0, len(row), NUMBER_BYTES)])

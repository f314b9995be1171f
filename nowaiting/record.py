"""Records, and the bytes that stand for them."""

NUMBER_BYTES = 8


def number_bytes(number):
    """Give the 8 bytes of a number of 64 bits, the lowest first."""
    row = []
    rest = number
    while len(row) < NUMBER_BYTES:
        row.append(rest % 256)
        rest = rest // 256
    return row


def record_bytes(record):
    """Give the 40 bytes of a record of five numbers."""
    row = []
    for number in record:
        row.extend(number_bytes(number))
    return row

"""Numbers in bytes, the highest byte first, and the sum of bytes."""

MOST_OF_TWO = 65535


def number_at(data, at, size):
    number = 0
    for byte in data[at:at + size]:
        number = number * 256 + byte
    return number


def as_bytes(number, size):
    return [(number >> (8 * (size - 1 - k))) & 255 for k in range(size)]


# Who asks leaves the two bytes of the sum itself out: they begin at an even place and count as 0.
def sum_of(data):
    total = sum(data[0::2]) * 256 + sum(data[1::2])
    while total > MOST_OF_TWO:
        total = (total >> 16) + (total & MOST_OF_TWO)
    return MOST_OF_TWO - total

"""The messages that the two ends send each other: 16 bytes, as a list of numbers."""

GIVEN = 1

POLYNOMIAL = 0x82F63B78
ONES = 0xFFFFFFFF


def low_bytes_first(number):
    return [(number >> shift) & 255 for shift in (0, 8, 16, 24)]


def check_of(numbers):
    rest = ONES
    for number in numbers:
        rest = rest ^ number
        for step in range(8):
            low_bit = rest & 1
            rest = rest >> 1
            if low_bit == 1:
                rest = rest ^ POLYNOMIAL
    return rest ^ ONES


def made_message(kind, sender, turn, count):
    body = [kind, sender, 0, 0] + low_bytes_first(turn) + low_bytes_first(count)
    return body + low_bytes_first(check_of(body))

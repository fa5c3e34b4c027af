"""The messages that the two ends send each other: 16 bytes, as a list of numbers."""

GIVEN = 1
HAD = 2
ASK = 3

LENGTH = 16

TURN_AT = 4
COUNT_AT = 8
CHECK_AT = 12

POLYNOMIAL = 0x82F63B78
ONES = 0xFFFFFFFF


def low_bytes_first(number):
    return [(number >> shift) & 255 for shift in (0, 8, 16, 24)]


def number_at(message, place):
    return sum([message[place + k] << (8 * k) for k in range(4)])


def check_of(numbers):
    rest = ONES
    for number in numbers:
        rest = rest ^ number
        for step in range(8):
            low_bit = rest & 1
            rest = rest >> 1
            if low_bit == 1:
                rest = rest ^ POLYNOMIAL
    return rest ^ ONES


def made_message(kind, sender, turn, count):
    body = [kind, sender, 0, 0] + low_bytes_first(turn) + low_bytes_first(count)
    return body + low_bytes_first(check_of(body))


def kind_of(message):
    return message[0]


def turn_of(message):
    return number_at(message, TURN_AT)


def count_of(message):
    return number_at(message, COUNT_AT)


def is_sound(message, sender):
    if len(message) != LENGTH:
        return False
    if message[1] != sender or message[2] != 0 or message[3] != 0:
        return False
    return number_at(message, CHECK_AT) == check_of(message[:CHECK_AT])


def is_right_ask(message, sender):
    return is_sound(message, sender) and kind_of(message) == ASK and count_of(message) == 0


def is_right(message, sender):
    if not is_sound(message, sender) or turn_of(message) == 0:
        return False
    return kind_of(message) == GIVEN or (kind_of(message) == HAD and count_of(message) == 0)

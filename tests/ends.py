"""What the tests share: calls, messages with a check worked out in another way, and answers taken apart."""

from onelane.desk import answers

IN = [1]
OUT = [2]
TICK = [5]
STATE = [6]

RED = [1, 0]
GREEN = [1, 1]
HAVE = [2, 1]
AT_RED = [2, 2]

QUIET = (0, [])
NOT_RIGHT = (-71, [])
REFUSED = (-22, [])
STARTED = (0, [RED])


def start(me, most):
    return [0, me, most]


def waiting(yes):
    return [3, yes]


def heard(message):
    return [4, len(message)] + message


def turned_about(number, bits):
    return int(format(number, f"0{bits}b")[::-1], 2)


def check(numbers):
    """CRC-32C from the high bit, where the package works from the low one."""
    rest = 0xFFFFFFFF
    for number in numbers:
        rest ^= turned_about(number, 8) << 24
        for _ in range(8):
            rest = (rest << 1) ^ (0x11EDC6F41 if rest >> 31 else 0)
    return turned_about(rest ^ 0xFFFFFFFF, 32)


def message(kind, of, turn, count=0, spare=(0, 0)):
    body = bytes((kind, of) + tuple(spare)) + turn.to_bytes(4, "little") + count.to_bytes(4, "little")
    return list(body + check(body).to_bytes(4, "little"))


def given(of, turn, count=0):
    return message(1, of, turn, count)


def had(of, turn):
    return message(2, of, turn)


def ask(of, turn):
    return message(3, of, turn)


def sent(numbers):
    return [0] + numbers


def told_in(numbers):
    """The things that are told, from the numbers that begin with how many they are."""
    lengths = {0: 17, 1: 2, 2: 2}
    things = []
    place = 1
    while place < len(numbers):
        things.append(numbers[place:place + lengths[numbers[place]]])
        place += lengths[numbers[place]]
    if place != len(numbers) or len(things) != numbers[0]:
        raise ValueError(f"not a list of things told: {numbers}")
    return things


def taken_apart(calls, numbers):
    """For each call (answer, things told); for a rw_state the eight numbers of its out."""
    results = []
    place = 0
    for call in calls:
        behind = place + 1 + numbers[place]
        block = numbers[place + 1:behind]
        if call == STATE:
            if len(block) != 10 or block[0] != 0 or block[9] != 0:
                raise ValueError(f"not the answer of a rw_state: {block}")
            results.append(block[1:9])
        else:
            results.append((block[0], told_in(block[1:])))
        place = behind
    if place != len(numbers):
        raise ValueError("more is answered than was called")
    return results


def in_one_list(calls):
    return [number for call in calls for number in call]


def played(calls):
    return taken_apart(calls, answers(in_one_list(calls)))


def last(calls):
    return played(calls)[-1]


# Ways to bring an end to a certain point, each with its most 5 and nobody waiting.
# End 1 has the right, turn 1.
HAS_AT_1 = [start(1, 5), heard(given(0, 1))]
# End 1 waits for two, turn 1.
WAITS_AT_1 = [start(1, 5), heard(given(0, 1, 2))]
# End 0 gave the right, turn 1; it isn't had, or it is.
GAVE_AT_1 = [start(0, 5), heard(ask(1, 0))]
GAVE_AND_HAD_AT_1 = GAVE_AT_1 + [heard(had(1, 1))]
# End 0 has the right, turn 2, and was asked last with turn 0.
HAS_AT_2 = GAVE_AT_1 + [heard(given(1, 2))]
# End 0 waits for two, turn 2.
WAITS_AT_2 = GAVE_AT_1 + [heard(given(1, 2, 2))]
# End 0 is green, turn 0, and somebody waits.
GREEN_AT_0 = [start(0, 5), waiting(1)]

EVERY_STANDING = {
    "begun as 0": [start(0, 5)],
    "begun as 1": [start(1, 5)],
    "has at 1": HAS_AT_1,
    "waits at 1": WAITS_AT_1,
    "gave at 1": GAVE_AT_1,
    "gave at 1, had": GAVE_AND_HAD_AT_1,
    "has at 2": HAS_AT_2,
    "waits at 2": WAITS_AT_2,
    "green at 0": GREEN_AT_0,
    "green at 0, asked": GREEN_AT_0 + [TICK, heard(ask(1, 0))],
    "somebody waits at 1": [start(1, 5), TICK, TICK, IN, OUT, waiting(1)],
}


def probes(me):
    """Calls that bring to light whatever an end keeps: run behind two lists, they tell whether these left the same."""
    other = 1 - me
    calls = [STATE] + [TICK] * 11 + [STATE, IN, OUT, STATE, waiting(1), STATE] + [TICK] * 11
    for turn in range(5):
        calls += [heard(ask(other, turn)), STATE, heard(given(other, turn + 1, 1)), STATE, heard(had(other, turn + 1))]
        calls += [waiting(turn % 2)] + [TICK] * 11 + [STATE]
    return calls

"""The desk: a list of calls comes in, the list of their answers goes out."""

from onelane.works import Works

RW_START = 0
RW_IN = 1
RW_OUT = 2
RW_WAITING = 3
RW_HEARD = 4
RW_TICK = 5

# How many whole numbers stand behind each call's own number, from rw_start to rw_state. That of
# rw_heard is how many its row has.
WHOLE_NUMBERS = (2, 0, 0, 1, 1, 0, 0)


def row_length(calls, place):
    return calls[place + 1] if calls[place] == RW_HEARD else 0


def called(works, call, handed, row):
    if call == RW_START:
        return [works.rw_start(handed[0], handed[1])]
    if call == RW_IN:
        return [works.rw_in()]
    if call == RW_OUT:
        return [works.rw_out()]
    if call == RW_WAITING:
        return [works.rw_waiting(handed[0])]
    if call == RW_HEARD:
        return [works.rw_heard(row)]
    if call == RW_TICK:
        return [works.rw_tick()]
    # A rw_state is never refused, so it hands over its out alone.
    return [0] + works.rw_state()


def with_told(answered, told):
    numbers = answered + [len(told)]
    for thing in told:
        numbers.extend(thing)
    return numbers


def answers(calls):
    works = Works()
    given = []
    place = 0
    while place < len(calls):
        first = place + 1
        row_at = first + WHOLE_NUMBERS[calls[place]]
        behind = row_at + row_length(calls, place)
        answered = called(works, calls[place], calls[first:row_at], calls[row_at:behind])
        numbers = with_told(answered, works.right.take_told())
        given.append(len(numbers))
        given.extend(numbers)
        place = behind
    return given

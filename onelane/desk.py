"""The desk: a list of calls comes in, the list of their answers goes out."""

from onelane.works import Works

RW_START = 0
RW_IN = 1
RW_OUT = 2
RW_WAITING = 3

# How many whole numbers stand behind each call's own number.
HANDED = {RW_START: 2, RW_IN: 0, RW_OUT: 0, RW_WAITING: 1}


def called(works, call, handed):
    if call == RW_START:
        return works.rw_start(handed[0], handed[1])
    if call == RW_IN:
        return works.rw_in()
    if call == RW_OUT:
        return works.rw_out()
    return works.rw_waiting(handed[0])


def with_told(answer, told):
    numbers = [answer, len(told)]
    for thing in told:
        numbers.extend(thing)
    return numbers


def answers(calls):
    works = Works()
    given = []
    place = 0
    while place < len(calls):
        first = place + 1
        behind = first + HANDED[calls[place]]
        answer = called(works, calls[place], calls[first:behind])
        numbers = with_told(answer, works.right.take_told())
        given.append(len(numbers))
        given.extend(numbers)
        place = behind
    return given

"""All seven calls together, and what the interface says of every list."""

import random
import unittest

from ends import (AT_RED, EVERY_STANDING, GREEN, HAVE, IN, NOT_RIGHT, OUT, QUIET, RED, REFUSED, STARTED, STATE, TICK,
                  ask, given, had, heard, in_one_list, message, played, probes, sent, start, waiting)
from onelane.desk import answers

# Each call with what it answers.
BEFORE_THE_SECOND_START = (
    (start(2, 3), REFUSED),
    (start(0, 3), STARTED),
    (STATE, [0, 0, 0, 1, 0, 0, 0, 0]),
    (IN, (-13, [AT_RED])),
    (waiting(7), REFUSED),
    (waiting(1), (0, [GREEN])),
    (IN, QUIET),
    (TICK, QUIET),
    (heard(ask(1, 0)), QUIET),
    (STATE, [0, 2, 0, 1, 1, 0, 1, 1]),
    (TICK, QUIET),
    (heard([]), NOT_RIGHT),
    (TICK, (0, [RED, sent(given(0, 1, 2))])),
    (IN, (-13, [AT_RED])),
    (STATE, [1, 3, 0, 0, 0, 0, 0, 0]),
    (TICK, QUIET),
    (TICK, QUIET),
    (TICK, QUIET),
    (TICK, QUIET),
    (TICK, QUIET),
    (TICK, QUIET),
    (TICK, (0, [sent(given(0, 1, 3)), sent(ask(0, 1))])),
    (heard(had(1, 1)), QUIET),
    (heard(given(1, 2, 1)), (0, [sent(had(0, 2))])),
    (STATE, [2, 3, 0, 2, 0, 1, 0, 0]),
)

# As it stands after the above.
BEHIND_A_REFUSED_START = (
    (start(1, 0), REFUSED),
    (STATE, [2, 3, 0, 2, 0, 1, 0, 0]),
    (OUT, (0, [HAVE, GREEN])),
    (heard(ask(1, 1)), QUIET),
    (heard(ask(1, 2)), QUIET),
    (TICK, QUIET),
    (TICK, QUIET),
    (STATE, [2, 3, 1, 1, 1, 0, 2, 1]),
    (waiting(0), QUIET),
    (TICK, (0, [RED, sent(given(0, 3, 3))])),
    (STATE, [3, 3, 1, 0, 0, 0, 0, 0]),
)

# From the beginning, whatever was before.
BEHIND_A_START = (
    (start(1, 1), STARTED),
    (STATE, [0, 0, 0, 0, 0, 0, 0, 0]),
    (OUT, QUIET),
    (heard(given(1, 1)), NOT_RIGHT),
    (waiting(1), QUIET),
    (heard(given(0, 1, 1)), (0, [HAVE, sent(had(1, 1)), GREEN])),
    (heard(given(0, 1, 1)), (0, [sent(had(1, 1))])),
    (TICK, QUIET),
    (TICK, QUIET),
    (STATE, [1, 0, 1, 1, 1, 0, 2, 0]),
    (IN, QUIET),
    (heard(ask(0, 1)), (0, [RED, sent(given(1, 2, 1))])),
    (heard(message(2, 0, 2, 1)), NOT_RIGHT),
    (STATE, [2, 1, 1, 0, 0, 0, 0, 0]),
    (TICK, QUIET),
    (TICK, QUIET),
    (TICK, QUIET),
    (TICK, QUIET),
    (TICK, QUIET),
    (TICK, QUIET),
    (TICK, QUIET),
    (TICK, (0, [sent(given(1, 2, 1)), sent(ask(1, 2))])),
)


def calls_by_chance(seed, length):
    chance = random.Random(seed)
    calls = [start(chance.randrange(2), chance.choice((1, 3, 10)))]
    while len(calls) < length:
        numbers = message(chance.randrange(5), chance.randrange(2), chance.randrange(8), chance.choice((0, 0, 0, 2)))
        calls.append(chance.choice((IN, OUT, STATE, TICK, TICK, TICK, waiting(chance.randrange(3)), heard(numbers),
                                    heard(numbers), heard(numbers))))
        if chance.random() < 0.02:
            calls.append(start(chance.randrange(3), chance.choice((0, 1, 5, 1000, 1001))))
    return calls[:length]


class WholeRunTest(unittest.TestCase):
    def assert_course(self, course):
        results = played([call for call, expected in course])
        for place, (call, expected) in enumerate(course):
            self.assertEqual(results[place], expected, (place, call))

    def test_start_again_refused(self):
        self.assert_course(BEFORE_THE_SECOND_START + BEHIND_A_REFUSED_START)

    def test_start_again(self):
        self.assert_course(BEFORE_THE_SECOND_START + BEHIND_A_START)
        self.assert_course(BEFORE_THE_SECOND_START + BEHIND_A_REFUSED_START + BEHIND_A_START)
        self.assert_course(BEHIND_A_START + BEFORE_THE_SECOND_START + BEHIND_A_START)

    def test_start_again_leaves_nothing(self):
        # Whatever was before, behind a start all is as in a list of its own.
        for seed in range(20):
            first, second = calls_by_chance(seed, 200), calls_by_chance(seed + 1000, 200)
            self.assertTrue(played(first + second) == played(first) + played(second), seed)

    def test_refused_start_leaves_all(self):
        refused = start(2, 5)
        for seed in range(20):
            first, second = calls_by_chance(seed, 100), calls_by_chance(seed + 1000, 100)[1:]
            with_it, without = played(first + [refused] + second), played(first + second)
            self.assertEqual(with_it.pop(100), REFUSED)
            self.assertTrue(with_it == without, seed)


    def test_refused_numbers_leave_all(self):
        refusals = [start(me, most) for me in (2, 4294967295) for most in (0, 5, 1001)]
        refusals += [start(me, most) for me in (0, 1) for most in (0, 1001, 4294967295)]
        refusals += [waiting(2), waiting(256), waiting(4294967295)]
        for name, before in EVERY_STANDING.items():
            me = before[0][1]
            untouched = played(before + probes(me))
            for refused in refusals:
                with self.subTest(standing=name, refused=refused):
                    results = played(before + [refused] + probes(me))
                    self.assertEqual(results.pop(len(before)), REFUSED)
                    self.assertEqual(results, untouched)


class ListTest(unittest.TestCase):
    def test_as_it_is_written(self):
        asked = ask(1, 0)
        given_bytes = given(0, 1)
        calls = [0, 0, 5, 4, 16] + asked + [6, 4, 0, 5, 4, 2, 5, 6, 1]
        self.assertEqual(answers(calls), [4, 0, 1, 1, 0] + [19, 0, 1, 0] + given_bytes
                         + [10, 0, 1, 0, 0, 0, 0, 0, 0, 0, 0] + [2, -71, 0] + [2, 0, 0] + [2, -71, 0]
                         + [4, -13, 1, 2, 2])

    def test_bytes_as_they_stand(self):
        # Written out, so that not even the order of the bytes rests on what the tests work out.
        asked = [3, 1, 0, 0, 0, 0, 0, 0, 0, 0, 0, 0, 204, 62, 131, 239]
        given_bytes = [1, 0, 0, 0, 1, 0, 0, 0, 0, 0, 0, 0, 74, 28, 45, 83]
        self.assertEqual(answers([0, 0, 5, 4, 16] + asked), [4, 0, 1, 1, 0, 19, 0, 1, 0] + given_bytes)

    def test_thousand_calls(self):
        for seed in range(5):
            calls = calls_by_chance(seed, 1000)
            self.assertEqual(len(played(calls)), 1000)

    def test_thousand_of_one_call(self):
        right_one = heard(given(0, 1, 0))
        cases = (
            ([TICK] * 999, [2, 0, 0] * 999),
            ([STATE] * 999, [10, 0, 0, 0, 0, 0, 0, 0, 0, 0, 0] * 999),
            ([heard([])] * 999, [2, -71, 0] * 999),
            ([right_one] * 999, [21, 0, 2, 2, 1] + sent(had(1, 1)) + ([19, 0, 1] + sent(had(1, 1))) * 998),
        )
        for calls, expected in cases:
            self.assertTrue(answers(in_one_list([start(1, 5)] + calls)) == [4, 0, 1, 1, 0] + expected)

    def test_longest_rows(self):
        calls = in_one_list([start(1, 5)] + [heard([row] * 1000) for row in range(29)] + [STATE])
        self.assertTrue(answers(calls) == [4, 0, 1, 1, 0] + [2, -71, 0] * 29 + [10] + [0] * 10)

    def test_row_that_looks_like_calls(self):
        calls = [start(0, 5), heard([0, 1, 5] * 5), heard([3, 1] * 8), heard([6] * 17), STATE]
        self.assertEqual(played(calls), [STARTED] + [NOT_RIGHT] * 3 + [[0, 0, 0, 1, 0, 0, 0, 0]])

    def test_list_handed_in_stays(self):
        for seed in range(10):
            calls = in_one_list(calls_by_chance(seed, 300))
            before = list(calls)
            answers(calls)
            self.assertTrue(calls == before)

    def test_second_run_is_as_the_first(self):
        lists = [in_one_list(calls_by_chance(seed, 300)) for seed in range(10)]
        first = [answers(calls) for calls in lists]
        kept = [list(numbers) for numbers in first]
        second = [answers(calls) for calls in reversed(lists)]
        self.assertTrue(second[::-1] == kept)
        for numbers in first:
            numbers.clear()
        self.assertTrue([answers(calls) for calls in lists] == kept)

    def test_only_whole_numbers(self):
        for seed in range(10):
            given_back = answers(in_one_list(calls_by_chance(seed, 300)))
            self.assertIs(type(given_back), list)
            self.assertEqual({type(number) for number in given_back}, {int})


if __name__ == "__main__":
    unittest.main()

"""Point 4: rw_tick. What is sent again, the ask, how long it's green."""

import unittest

from ends import (GAVE_AND_HAD_AT_1, GAVE_AT_1, GREEN, GREEN_AT_0, HAS_AT_1, HAS_AT_2, HAVE, IN, OUT, QUIET, RED,
                  REFUSED, STATE, TICK, WAITS_AT_1, ask, given, had, heard, last, played, sent, start, waiting)
from onelane.works import Works


def ticked(before, ticks):
    """What each of so many ticks behind `before` answers."""
    return played(before + [TICK] * ticks)[len(before):]


def only_on(ticks, places, told):
    return [(0, told) if tick in places else QUIET for tick in range(1, ticks + 1)]


class SentAgainTest(unittest.TestCase):
    def test_each_tenth(self):
        self.assertEqual(ticked(GAVE_AT_1, 35), only_on(35, (10, 20, 30), [sent(given(0, 1))]))

    def test_by_end_1(self):
        before = HAS_AT_1 + [heard(ask(0, 1))]
        self.assertEqual(ticked(before, 25), only_on(25, (10, 20), [sent(given(1, 2))]))

    def test_not_when_had(self):
        self.assertEqual(ticked(GAVE_AND_HAD_AT_1, 35), [QUIET] * 35)

    def test_no_more_when_had_between(self):
        calls = GAVE_AT_1 + [TICK] * 10 + [heard(had(1, 1))]
        self.assertEqual(ticked(calls, 25), [QUIET] * 25)

    def test_not_by_one_that_has_it_or_waits_or_begins(self):
        for before in ([start(0, 5)], [start(1, 5)], HAS_AT_1, WAITS_AT_1, HAS_AT_2, GREEN_AT_0):
            self.assertEqual(ticked(before, 35), [QUIET] * 35)

    def test_with_how_many_drove_in_by_then(self):
        calls = [start(0, 5), IN, heard(ask(1, 0))]
        self.assertEqual(last(calls), (0, [sent(given(0, 1, 1))]))
        calls += [TICK] * 9 + [IN, IN, TICK]
        self.assertEqual(last(calls), (0, [sent(given(0, 1, 3))]))
        calls += [IN, OUT] + [TICK] * 10
        self.assertEqual(last(calls), (0, [sent(given(0, 1, 4))]))

    def test_counted_from_the_start_and_not_from_the_giving(self):
        calls = [start(0, 5)] + [TICK] * 7 + [heard(ask(1, 0))]
        self.assertEqual(ticked(calls, 14), only_on(14, (3, 13), [sent(given(0, 1))]))

    def test_start_begins_the_count_anew(self):
        for ticks in (1, 7, 9, 10, 13):
            with self.subTest(ticks=ticks):
                calls = GAVE_AT_1 + [TICK] * ticks + GAVE_AT_1
                self.assertEqual(ticked(calls, 21), only_on(21, (10, 20), [sent(given(0, 1))]))

    def test_refused_calls_leave_the_count(self):
        calls = GAVE_AT_1 + [TICK] * 7 + [start(0, 0), start(2, 5), waiting(2), heard([])]
        self.assertEqual(ticked(calls, 14), only_on(14, (3, 13), [sent(given(0, 1))]))


class AskTest(unittest.TestCase):
    def test_each_tenth_while_somebody_waits(self):
        self.assertEqual(ticked([start(1, 5), waiting(1)], 35), only_on(35, (10, 20, 30), [sent(ask(1, 0))]))

    def test_not_while_nobody_waits(self):
        self.assertEqual(ticked([start(1, 5)], 35), [QUIET] * 35)
        self.assertEqual(ticked([start(1, 5), waiting(1), waiting(0)], 35), [QUIET] * 35)

    def test_not_with_the_right(self):
        for before in ([start(0, 5)], HAS_AT_1, HAS_AT_2):
            self.assertEqual(ticked(before + [waiting(1)], 35), [QUIET] * 35)

    def test_while_it_waits_for_somebody_to_come_out(self):
        self.assertEqual(ticked(WAITS_AT_1 + [waiting(1)], 25), only_on(25, (10, 20), [sent(ask(1, 1))]))
        self.assertEqual(ticked(WAITS_AT_1, 25), [QUIET] * 25)

    def test_with_the_turn_that_it_knows(self):
        gave_at_3 = HAS_AT_2 + [heard(ask(1, 2)), heard(had(1, 3)), waiting(1)]
        self.assertEqual(ticked(gave_at_3, 10), only_on(10, (10,), [sent(ask(0, 3))]))

    def test_nobody_waits_on_the_tenth(self):
        calls = [start(1, 5), waiting(1)] + [TICK] * 9 + [waiting(0), TICK, waiting(1)] + [TICK] * 10
        self.assertEqual(played(calls)[2:], [QUIET] * 21 + [(0, [sent(ask(1, 0))])])

    def test_refused_waiting_leaves_somebody_waiting(self):
        self.assertEqual(ticked([start(1, 5), waiting(1), waiting(2)], 10), only_on(10, (10,), [sent(ask(1, 0))]))

    def test_no_ask_at_once_when_somebody_comes(self):
        calls = [start(1, 5)] + [TICK] * 10
        self.assertEqual(last(calls + [waiting(1)]), QUIET)
        self.assertEqual(ticked(calls + [waiting(1)], 10), only_on(10, (10,), [sent(ask(1, 0))]))

    def test_start_begins_the_count_anew(self):
        calls = [start(1, 5)] + [TICK] * 6 + [start(1, 5), waiting(1)]
        self.assertEqual(ticked(calls, 12), only_on(12, (10,), [sent(ask(1, 0))]))

    def test_behind_what_is_sent_again(self):
        both = [sent(given(0, 1)), sent(ask(0, 1))]
        self.assertEqual(ticked(GAVE_AT_1 + [waiting(1)], 25), only_on(25, (10, 20), both))
        self.assertEqual(ticked(GAVE_AND_HAD_AT_1 + [waiting(1)], 25), only_on(25, (10, 20), both[1:]))

    def test_ahead_of_the_looking(self):
        # The right is given on the tenth tick itself: what that leaves is neither sent again nor asked for.
        calls = [start(0, 10), waiting(1), heard(ask(1, 0))]
        self.assertEqual(ticked(calls, 20), [QUIET] * 9 + [(0, [RED, sent(given(0, 1))])] + [QUIET] * 9
                         + [(0, [sent(given(0, 1)), sent(ask(0, 1))])])


class GreenTest(unittest.TestCase):
    def green_ticks(self, before, ticks):
        results = played(before + [TICK, STATE] * ticks)
        return [state[6] for state in results[len(before) + 1::2]]

    def test_at_a_red_light(self):
        for before in ([start(0, 5)], [start(1, 5)], [start(1, 5), waiting(1)], HAS_AT_1, GAVE_AT_1):
            self.assertEqual(self.green_ticks(before, 12), [0] * 12)

    def test_at_a_green_light(self):
        self.assertEqual(self.green_ticks(GREEN_AT_0, 4), [1, 2, 3, 4])

    def test_not_asked_it_stays_green(self):
        self.assertEqual(ticked(GREEN_AT_0, 40), [QUIET] * 40)
        self.assertEqual(self.green_ticks(GREEN_AT_0, 40), list(range(1, 41)))

    def test_ticks_before_it_was_green_are_not_counted(self):
        calls = [start(0, 5)] + [TICK] * 7 + [waiting(1)]
        self.assertEqual(self.green_ticks(calls, 3), [1, 2, 3])
        self.assertEqual(ticked(calls + [heard(ask(1, 0))], 5), [QUIET] * 4 + [(0, [RED, sent(given(0, 1))])])

    def test_red_after_most_ticks_and_given_at_once(self):
        for most in (1, 2, 9, 11, 100):
            with self.subTest(most=most):
                calls = [start(0, most), waiting(1), IN, heard(ask(1, 0))]
                self.assertEqual(ticked(calls, most), [QUIET] * (most - 1) + [(0, [RED, sent(given(0, 1, 1))])])
                self.assertEqual(last(calls + [TICK] * most + [STATE]), [1, 1, 0, 0, 0, 0, 0, 0])

    def test_given_though_nobody_waits_any_more(self):
        calls = GREEN_AT_0 + [heard(ask(1, 0)), waiting(0)]
        self.assertEqual(ticked(calls, 5), [QUIET] * 4 + [(0, [RED, sent(given(0, 1))])])

    def test_asked_between(self):
        calls = GREEN_AT_0 + [TICK] * 3 + [heard(ask(1, 0))]
        self.assertEqual(ticked(calls, 2), [QUIET, (0, [RED, sent(given(0, 1))])])

    def test_begins_with_none_in_each_turn(self):
        calls = [start(0, 3), waiting(1), heard(ask(1, 9))] + [TICK] * 3
        self.assertEqual(last(calls), (0, [RED, sent(given(0, 1))]))
        calls += [heard(given(1, 2))]
        self.assertEqual(last(calls), (0, [HAVE, sent(had(0, 2)), GREEN]))
        self.assertEqual(last(calls + [STATE]), [2, 0, 0, 1, 1, 0, 0, 1])
        self.assertEqual(ticked(calls, 3), [QUIET] * 2 + [(0, [RED, sent(given(0, 3))])])

    def test_start_begins_it_anew(self):
        calls = GREEN_AT_0 + [TICK] * 4 + GREEN_AT_0
        self.assertEqual(self.green_ticks(calls, 3), [1, 2, 3])
        self.assertEqual(ticked(calls + [heard(ask(1, 0))], 5), [QUIET] * 4 + [(0, [RED, sent(given(0, 1))])])

    def test_refused_start_leaves_most(self):
        calls = GREEN_AT_0 + [heard(ask(1, 0)), start(0, 1001), start(2, 1)]
        self.assertEqual(played(calls)[-2:], [REFUSED] * 2)
        self.assertEqual(ticked(calls, 5), [QUIET] * 4 + [(0, [RED, sent(given(0, 1))])])

    def test_most_1000_in_a_whole_list(self):
        calls = [start(0, 1000), waiting(1), heard(ask(1, 0))] + [TICK] * 996 + [STATE]
        self.assertEqual(len(calls), 1000)
        results = played(calls)
        self.assertTrue(results[3:-1] == [QUIET] * 996)
        self.assertEqual(results[-1], [0, 0, 0, 1, 1, 0, 996, 1])

    def test_most_1000_to_its_end(self):
        # A list can't hold it, since it has at most 1000 calls.
        works = Works()
        works.rw_start(0, 1000)
        works.rw_waiting(1)
        works.rw_heard(ask(1, 0))
        works.right.take_told()
        self.assertEqual({works.rw_tick() for tick in range(999)}, {0})
        self.assertEqual((works.right.take_told(), works.rw_state()), ([], [0, 0, 0, 1, 1, 0, 999, 1]))
        self.assertEqual((works.rw_tick(), works.right.take_told()), (0, [RED, sent(given(0, 1))]))


if __name__ == "__main__":
    unittest.main()

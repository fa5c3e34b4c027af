"""Point 3: rw_heard. Asks, and the messages of the right."""

import unittest

from ends import (EVERY_STANDING, GAVE_AND_HAD_AT_1, GAVE_AT_1, GREEN, GREEN_AT_0, HAS_AT_1, HAS_AT_2, HAVE, IN,
                  NOT_RIGHT, OUT, QUIET, RED, STATE, TICK, WAITS_AT_1, WAITS_AT_2, ask, check, given, had, heard, last,
                  message, played, probes, sent, start, waiting)

MOST = 4294967295


def wrongly_checked(numbers, by=1):
    wrong = (int.from_bytes(bytes(numbers[12:]), "little") + by) % 2 ** 32
    return numbers[:12] + list(wrong.to_bytes(4, "little"))


def every_bit_turned(numbers):
    for bit in range(128):
        turned = list(numbers)
        turned[bit // 8] ^= 1 << (bit % 8)
        yield turned


class HeardCase(unittest.TestCase):
    def assert_as_if_not_heard(self, before, numbers):
        me = before[0][1]
        results = played(before + [heard(numbers)] + probes(me))
        self.assertEqual(results[len(before)], NOT_RIGHT)
        del results[len(before)]
        self.assertEqual(results, played(before + probes(me)))


class AskTest(HeardCase):
    def test_turn_0_at_the_beginning(self):
        calls = [start(0, 5), heard(ask(1, 0)), STATE]
        self.assertEqual(played(calls)[1:], [(0, [sent(given(0, 1))]), [1, 0, 0, 0, 0, 0, 0, 0]])

    def test_given_with_how_many_drove_in(self):
        self.assertEqual(last([start(0, 5), IN, IN, IN, OUT, heard(ask(1, 0))]), (0, [sent(given(0, 1, 3))]))

    def test_own_turn_and_later_ones(self):
        for turn in (2, 3, 4, 255, 256, 65536, 16777216, MOST - 1, MOST):
            with self.subTest(turn=turn):
                self.assertEqual(last(HAS_AT_2 + [heard(ask(1, turn))]), (0, [sent(given(0, 3))]))

    def test_earlier_turns(self):
        for turn in (0, 1):
            with self.subTest(turn=turn):
                calls = HAS_AT_2 + [heard(ask(1, turn)), STATE]
                self.assertEqual(played(calls)[-2:], [QUIET, [2, 0, 0, 1, 0, 0, 0, 0]])

    def test_every_byte_of_the_turn_counts(self):
        # Asked by a turn of which only the low byte is 0, or only one byte isn't.
        for turn in (256, 65536, 16777216):
            calls = HAS_AT_2 + [waiting(1), heard(ask(1, turn)), STATE]
            self.assertEqual(last(calls)[7], 1)

    def test_at_a_green_light(self):
        calls = GREEN_AT_0 + [heard(ask(1, 0)), STATE]
        self.assertEqual(played(calls)[-2:], [QUIET, [0, 0, 0, 1, 1, 0, 0, 1]])

    def test_at_a_light_that_has_been_green_for_most_ticks(self):
        for ticks, told in ((0, []), (4, []), (5, [RED, sent(given(0, 1, 1))]), (9, [RED, sent(given(0, 1, 1))])):
            with self.subTest(ticks=ticks):
                self.assertEqual(last(GREEN_AT_0 + [IN] + [TICK] * ticks + [heard(ask(1, 0))]), (0, told))

    def test_earlier_turn_at_a_green_light(self):
        calls = HAS_AT_2 + [waiting(1)] + [TICK] * 7 + [heard(ask(1, 1)), STATE]
        self.assertEqual(played(calls)[-2:], [QUIET, [2, 0, 0, 1, 1, 0, 7, 0]])

    def test_the_same_ask_twice(self):
        self.assertEqual(played(GREEN_AT_0 + [heard(ask(1, 0))] * 3)[-3:], [QUIET] * 3)
        self.assertEqual(last(GAVE_AT_1 + [heard(ask(1, 0))]), QUIET)

    def test_below_what_was_asked_last(self):
        # Asked by 5, then by less: in turns 2 and 4 it's asked still, in turn 6 no more.
        calls = GAVE_AT_1 + [heard(ask(1, 5)), heard(ask(1, 0)), heard(ask(1, 4))]
        for turn, told in ((2, [sent(given(0, 3))]), (4, [sent(given(0, 5))]), (6, [])):
            calls += [heard(given(1, turn))]
            self.assertEqual(last(calls), (0, [HAVE, sent(had(0, turn))] + told))

    def test_above_what_was_asked_last(self):
        calls = HAS_AT_2 + [waiting(1), heard(ask(1, 0)), STATE, heard(ask(1, 1)), STATE, heard(ask(1, 2)), STATE]
        self.assertEqual([result[7] for result in played(calls)[-5::2]], [0, 0, 1])

    def test_by_the_highest_turn_it_is_asked_for_good(self):
        calls = [start(0, 5), heard(ask(1, MOST)), heard(ask(1, 0))]
        for turn in (2, 4, 6, 8):
            calls += [heard(given(1, turn))]
            self.assertEqual(last(calls), (0, [HAVE, sent(had(0, turn)), sent(given(0, turn + 1))]))

    def test_without_the_right_it_is_kept_for_later(self):
        for before in ([start(1, 5)], WAITS_AT_1):
            calls = before + [heard(ask(0, 1)), STATE]
            self.assertEqual(played(calls)[-2], QUIET)
            self.assertEqual(last(calls)[7], 0)
        self.assertEqual(last([start(1, 5), heard(ask(0, 1)), heard(given(0, 1))]),
                         (0, [HAVE, sent(had(1, 1)), sent(given(1, 2))]))
        self.assertEqual(last(WAITS_AT_1 + [heard(ask(0, 1)), OUT, OUT]), (0, [HAVE, sent(given(1, 2))]))
        self.assertEqual(last(WAITS_AT_1 + [heard(ask(0, 0)), OUT, OUT]), (0, [HAVE]))

    def test_not_right(self):
        for name, before in EVERY_STANDING.items():
            me = before[0][1]
            right = ask(1 - me, 0)
            wrong = [
                wrongly_checked(right), wrongly_checked(right, 2 ** 24), right[:12] + [0, 0, 0, 0],
                ask(me, 0), ask(2, 0), ask(255, 0),
                message(3, 1 - me, 0, spare=(1, 0)), message(3, 1 - me, 0, spare=(0, 255)),
                message(3, 1 - me, 0, 1), message(3, 1 - me, 9, 2 ** 24), message(3, 1 - me, MOST, MOST),
                right[:15], right + [0], right + right, [], [3], right + [0] * 984, [255] * 1000,
            ]
            for numbers in wrong:
                with self.subTest(standing=name, numbers=numbers[:17]):
                    self.assert_as_if_not_heard(before, numbers)

    def test_one_bit_turned(self):
        for numbers in every_bit_turned(ask(1, 0)):
            self.assertEqual(last([start(0, 5), heard(numbers)]), NOT_RIGHT, numbers)

    def test_fifteen_and_seventeen_bytes_with_a_check_at_their_end(self):
        for length in (11, 13):
            body = (ask(1, 0)[:12] + [0])[:length]
            numbers = body + list(check(body).to_bytes(4, "little"))
            self.assert_as_if_not_heard([start(0, 5)], numbers)


class GivenTest(HeardCase):
    def test_nobody_to_wait_for(self):
        calls = [start(1, 5), heard(given(0, 1)), STATE]
        self.assertEqual(played(calls)[1:], [(0, [HAVE, sent(had(1, 1))]), [1, 0, 0, 1, 0, 0, 0, 0]])

    def test_not_all_out_yet(self):
        calls = [start(1, 5), heard(given(0, 1, 2)), STATE, OUT, STATE, OUT, STATE]
        self.assertEqual(played(calls)[1:], [
            (0, [sent(had(1, 1))]), [1, 0, 0, 2, 0, 2, 0, 0],
            QUIET, [1, 0, 1, 2, 0, 2, 0, 0],
            (0, [HAVE]), [1, 0, 2, 1, 0, 0, 0, 0],
        ])

    def test_all_out_already_or_more(self):
        for outs, count, has in ((1, 2, False), (2, 2, True), (3, 2, True), (3, 0, True), (2, 258, False)):
            with self.subTest(outs=outs, count=count):
                calls = [start(1, 5)] + [OUT] * outs + [heard(given(0, 1, count)), STATE]
                self.assertEqual(played(calls)[-2:], [
                    (0, ([HAVE] if has else []) + [sent(had(1, 1))]),
                    [1, 0, outs, 1 if has else 2, 0, 0 if has else count, 0, 0],
                ])

    def test_highest_count(self):
        calls = [start(1, 5), OUT, heard(given(0, 1, MOST)), OUT, STATE]
        self.assertEqual(played(calls)[-3:], [(0, [sent(had(1, 1))]), QUIET, [1, 0, 2, 2, 0, MOST, 0, 0]])

    def test_one_above_at_one_that_gave(self):
        for before in (GAVE_AT_1, GAVE_AND_HAD_AT_1):
            calls = before + [heard(given(1, 2)), STATE]
            self.assertEqual(played(calls)[-2:], [(0, [HAVE, sent(had(0, 2))]), [2, 0, 0, 1, 0, 0, 0, 0]])
            calls = before + [heard(given(1, 2, 7)), STATE]
            self.assertEqual(played(calls)[-2:], [(0, [sent(had(0, 2))]), [2, 0, 0, 2, 0, 7, 0, 0]])

    def test_no_more_sent_again_once_the_right_came_back(self):
        for before in (HAS_AT_2, WAITS_AT_2):
            self.assertEqual(played(before + [TICK] * 30)[-30:], [QUIET] * 30)

    def test_what_changes_nothing_and_is_not_answered(self):
        cases = (
            ([start(0, 5)], (1, 2, MOST)),
            ([start(1, 5)], (2, 3, MOST)),
            (HAS_AT_1, (2, 3, MOST)),
            (WAITS_AT_1, (2, 3, MOST)),
            (GAVE_AT_1, (1, 3, 4, 258, MOST)),
            (GAVE_AND_HAD_AT_1, (1, 3, 4, 258, MOST)),
            (HAS_AT_2, (1, 3, 4, MOST)),
            (WAITS_AT_2, (1, 3, 4, MOST)),
            (GREEN_AT_0, (1, 2, MOST)),
        )
        for before, turns in cases:
            me = before[0][1]
            untouched = played(before + probes(me))
            for turn in turns:
                for count in (0, 1):
                    with self.subTest(before=before, turn=turn, count=count):
                        results = played(before + [heard(given(1 - me, turn, count))] + probes(me))
                        self.assertEqual(results.pop(len(before)), QUIET)
                        self.assertEqual(results, untouched)

    def test_own_turn_is_answered_and_changes_nothing(self):
        for before, turn in ((HAS_AT_1, 1), (WAITS_AT_1, 1), (HAS_AT_2, 2), (WAITS_AT_2, 2),
                             (HAS_AT_2 + [waiting(1)], 2)):
            me = before[0][1]
            untouched = played(before + probes(me))
            # With another count too: only the first one is taken.
            for count in (0, 1, 2, 9):
                with self.subTest(before=before, count=count):
                    results = played(before + [heard(given(1 - me, turn, count))] * 2 + probes(me))
                    answered = (0, [sent(had(me, turn))])
                    self.assertEqual((results.pop(len(before)), results.pop(len(before))), (answered, answered))
                    self.assertEqual(results, untouched)

    def test_the_same_twice(self):
        calls = [start(1, 5), heard(given(0, 1)), heard(given(0, 1)), heard(ask(0, 1)), heard(given(0, 1)), STATE]
        self.assertEqual(played(calls)[1:], [
            (0, [HAVE, sent(had(1, 1))]),
            (0, [sent(had(1, 1))]),
            (0, [sent(given(1, 2))]),
            QUIET,
            [2, 0, 0, 0, 0, 0, 0, 0],
        ])

    def test_looked_at_with_the_right(self):
        cases = (
            ([waiting(0)], []),
            ([waiting(1)], [GREEN]),
            ([heard(ask(0, 0))], []),
            ([heard(ask(0, 1))], [sent(given(1, 2, 1))]),
            ([heard(ask(0, 1)), waiting(1)], [GREEN]),
            ([heard(ask(0, 0)), waiting(1)], [GREEN]),
        )
        for between, told in cases:
            with self.subTest(between=between):
                calls = [start(1, 5), IN] + between + [heard(given(0, 1))]
                self.assertEqual(last(calls), (0, [HAVE, sent(had(1, 1))] + told))

    def test_looked_at_while_it_waits(self):
        calls = [start(1, 5), waiting(1), heard(ask(0, 1)), heard(given(0, 1, 1)), OUT]
        self.assertEqual(played(calls)[-2:], [(0, [sent(had(1, 1))]), (0, [HAVE, GREEN])])

    def test_green_once_in_each_turn_where_asked(self):
        calls = [start(1, 1), waiting(1), heard(ask(0, MOST))]
        for turn in (1, 3, 5):
            calls += [heard(given(0, turn)), TICK]
            self.assertEqual(played(calls)[-2:], [(0, [HAVE, sent(had(1, turn)), GREEN]),
                                                  (0, [RED, sent(given(1, turn + 1))])])


class HadTest(HeardCase):
    def sent_again(self, before):
        """What the tenth tick tells; nobody may wait and no tick may have been before."""
        return last(before + [TICK] * 10)

    def test_had(self):
        calls = GAVE_AT_1 + [heard(had(1, 1))]
        self.assertEqual(last(calls), QUIET)
        self.assertEqual(last(calls + [STATE]), [1, 0, 0, 0, 0, 0, 0, 0])
        self.assertEqual(self.sent_again(calls), QUIET)
        self.assertEqual(self.sent_again(calls + [heard(had(1, 1))]), QUIET)

    def test_another_turn(self):
        gave_at_3 = HAS_AT_2 + [heard(ask(1, 2))]
        for turn in (1, 2, 4, 259, MOST):
            calls = gave_at_3 + [heard(had(1, turn))]
            self.assertEqual(last(calls), QUIET)
            self.assertEqual(self.sent_again(calls), (0, [sent(given(0, 3))]))
        self.assertEqual(self.sent_again(gave_at_3 + [heard(had(1, 3))]), QUIET)

    def test_had_is_of_one_giving_alone(self):
        calls = GAVE_AND_HAD_AT_1 + [heard(given(1, 2)), heard(ask(1, 2))]
        self.assertEqual(self.sent_again(calls), (0, [sent(given(0, 3))]))

    def test_at_one_that_did_not_give(self):
        for before, turn in ((HAS_AT_1, 1), (HAS_AT_1, 2), (HAS_AT_2, 2), (HAS_AT_2, 3), ([start(0, 5)], 1)):
            me = before[0][1]
            results = played(before + [heard(had(1 - me, turn))] + probes(me))
            self.assertEqual(results.pop(len(before)), QUIET)
            self.assertEqual(results, played(before + probes(me)))
            gave_later = before + [heard(had(1 - me, turn)), heard(ask(1 - me, 2))]
            self.assertEqual(self.sent_again(gave_later), last(gave_later))

    def test_at_one_that_waits(self):
        calls = WAITS_AT_1 + [heard(had(0, 1)), OUT, OUT, heard(ask(0, 1))]
        self.assertEqual(played(calls)[2], QUIET)
        self.assertEqual(self.sent_again(calls), (0, [sent(given(1, 2))]))


class NotRightTest(HeardCase):
    def test_neither_right_nor_an_ask(self):
        for name, before in EVERY_STANDING.items():
            me = before[0][1]
            other = 1 - me
            wrong = [message(kind, other, 0, count) for kind in (1, 2) for count in (0, 1)]
            wrong += [message(kind, other, turn) for kind in (0, 4, 5, 128, 255) for turn in (0, 1, 2, 3)]
            for turn in (1, 2, 3):
                wrong += [message(2, other, turn, 1), message(2, other, turn, 2 ** 24), message(2, other, turn, MOST)]
                for right in (given(other, turn), given(other, turn, 1), had(other, turn)):
                    wrong += [wrongly_checked(right), right[:12] + [0, 0, 0, 0], right[:12] + right[:11:-1]]
                    wrong += [right[:15], right + [0], [0] + right, right[:4], right + [0] * 984]
                for kind in (1, 2):
                    wrong += [message(kind, of, turn) for of in (me, 2, 255)]
                    wrong += [message(kind, other, turn, spare=spare) for spare in ((1, 0), (0, 1), (128, 128))]
            for numbers in wrong:
                with self.subTest(standing=name, numbers=numbers[:17]):
                    self.assert_as_if_not_heard(before, numbers)

    def test_one_bit_turned(self):
        for right in (given(0, 1, 3), had(0, 1)):
            for numbers in every_bit_turned(right):
                self.assertEqual(last([start(1, 5), heard(numbers)]), NOT_RIGHT, numbers)

    def test_none_and_a_thousand(self):
        for numbers in ([], [0] * 1000, [255] * 1000, [0] * 16, [255] * 16):
            self.assert_as_if_not_heard([start(1, 5)], numbers)


if __name__ == "__main__":
    unittest.main()

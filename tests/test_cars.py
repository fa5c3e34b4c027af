"""Point 2: rw_in, rw_out, rw_waiting, each looked at afterwards."""

import itertools
import unittest

from onelane.desk import answers

STARTED = [4, 0, 1, 1, 0]
REFUSED = [2, -22, 0]
LIT_GREEN = [4, 0, 1, 1, 1]
QUIET = [2, 0, 0]
AT_RED = [4, -13, 1, 2, 2]


class DriveInTest(unittest.TestCase):
    def test_at_red(self):
        for me in (0, 1):
            with self.subTest(me=me):
                self.assertEqual(answers([0, me, 5, 1, 1]), STARTED + AT_RED * 2)

    def test_at_green(self):
        self.assertEqual(answers([0, 0, 5, 3, 1, 1, 1]), STARTED + LIT_GREEN + QUIET * 2)

    def test_at_red_lights_nothing_while_nobody_waits(self):
        self.assertEqual(answers([0, 0, 5, 1, 3, 0, 1, 3, 1, 1]),
                         STARTED + AT_RED + QUIET + AT_RED + LIT_GREEN + QUIET)


class ComeOutTest(unittest.TestCase):
    def test_with_the_right(self):
        self.assertEqual(answers([0, 0, 5, 2, 2]), STARTED + QUIET * 2)
        self.assertEqual(answers([0, 0, 5, 3, 1, 2]), STARTED + LIT_GREEN + QUIET)

    def test_without_the_right(self):
        self.assertEqual(answers([0, 1, 5, 2, 3, 1, 2]), STARTED + QUIET * 3)


class WaitingTest(unittest.TestCase):
    def test_yes_with_the_right(self):
        for yes, expected in ((0, QUIET), (1, LIT_GREEN), (2, REFUSED), (4294967295, REFUSED)):
            with self.subTest(yes=yes):
                self.assertEqual(answers([0, 0, 5, 3, yes]), STARTED + expected)

    def test_yes_without_the_right(self):
        for yes, expected in ((0, QUIET), (1, QUIET), (2, REFUSED), (4294967295, REFUSED)):
            with self.subTest(yes=yes):
                self.assertEqual(answers([0, 1, 5, 3, yes, 1]), STARTED + expected + AT_RED)

    def test_nothing_is_lit_twice(self):
        calls = [0, 0, 5, 3, 1, 3, 1, 1, 2, 3, 1]
        self.assertEqual(answers(calls), STARTED + LIT_GREEN + QUIET * 4)

    def test_stays_green_when_nobody_waits_any_more(self):
        calls = [0, 0, 5, 3, 1, 3, 0, 1, 3, 1]
        self.assertEqual(answers(calls), STARTED + LIT_GREEN + QUIET * 3)

    def test_refused_leaves_nobody_waiting(self):
        # If the refused call were taken as a yes, the rw_out would light it.
        self.assertEqual(answers([0, 0, 5, 3, 2, 2]), STARTED + REFUSED + QUIET)


def plain_answers(me, calls):
    """What end `me` answers where no message comes: it may only ever be lit once, by the first who waits."""
    given = list(STARTED)
    green = False
    for call in calls:
        if call == [1]:
            given += QUIET if green else AT_RED
        elif call == [3, 1] and me == 0 and not green:
            green = True
            given += LIT_GREEN
        elif call == [3, 2]:
            given += REFUSED
        else:
            given += QUIET
    return given


class EveryShortListTest(unittest.TestCase):
    def test_all_lists_of_up_to_five_calls(self):
        for me in (0, 1):
            for length in range(6):
                for calls in itertools.product(([1], [2], [3, 0], [3, 1], [3, 2]), repeat=length):
                    handed = [0, me, 1] + list(itertools.chain.from_iterable(calls))
                    self.assertEqual(answers(handed), plain_answers(me, calls), handed)


if __name__ == "__main__":
    unittest.main()

"""Point 1: rw_start."""

import unittest

from onelane.desk import answers

STARTED = [4, 0, 1, 1, 0]
REFUSED = [2, -22, 0]
LIT_GREEN = [4, 0, 1, 1, 1]
QUIET = [2, 0, 0]
AT_RED = [4, -13, 1, 2, 2]


class StartTest(unittest.TestCase):
    def test_me(self):
        for me, expected in ((0, STARTED), (1, STARTED), (2, REFUSED), (255, REFUSED), (4294967295, REFUSED)):
            with self.subTest(me=me):
                self.assertEqual(answers([0, me, 5]), expected)

    def test_most(self):
        cases = ((0, REFUSED), (1, STARTED), (2, STARTED), (999, STARTED), (1000, STARTED),
                 (1001, REFUSED), (4294967295, REFUSED))
        for most, expected in cases:
            for me in (0, 1):
                with self.subTest(me=me, most=most):
                    self.assertEqual(answers([0, me, most]), expected)

    def test_both_wrong_is_refused_once(self):
        self.assertEqual(answers([0, 2, 0]), REFUSED)
        self.assertEqual(answers([0, 4294967295, 4294967295]), REFUSED)

    def test_refused_starts_ahead_of_the_first(self):
        calls = [0, 2, 5, 0, 0, 0, 0, 1, 1001, 0, 0, 5, 3, 1]
        self.assertEqual(answers(calls), REFUSED * 3 + STARTED + LIT_GREEN)

    def test_refused_starts_leave_no_end_behind(self):
        calls = [0, 1, 0, 0, 0, 1001, 0, 1, 1000, 3, 1]
        self.assertEqual(answers(calls), REFUSED * 2 + STARTED + QUIET)

    def test_nothing_is_lit_by_a_start_though_somebody_waited(self):
        calls = [0, 0, 5, 3, 1, 0, 0, 5, 1]
        self.assertEqual(answers(calls), STARTED + LIT_GREEN + STARTED + AT_RED)

    def test_nobody_waits_after_a_second_start(self):
        # If the waiting were kept, the rw_out would light it.
        calls = [0, 1, 5, 3, 1, 0, 0, 5, 2]
        self.assertEqual(answers(calls), STARTED + QUIET + STARTED + QUIET)

    def test_second_start_makes_another_end_of_it(self):
        self.assertEqual(answers([0, 0, 5, 0, 1, 5, 3, 1]), STARTED * 2 + QUIET)
        self.assertEqual(answers([0, 1, 5, 0, 0, 5, 3, 1]), STARTED * 2 + LIT_GREEN)

    def test_second_start_at_a_green_light_may_be_lit_again(self):
        calls = [0, 0, 5, 3, 1, 0, 0, 5, 3, 1, 1]
        self.assertEqual(answers(calls), (STARTED + LIT_GREEN) * 2 + QUIET)

    def test_refused_second_start_leaves_green(self):
        for me, most in ((2, 5), (0, 0), (1, 1001), (4294967295, 4294967295)):
            with self.subTest(me=me, most=most):
                calls = [0, 0, 5, 3, 1, 0, me, most, 1, 3, 1]
                self.assertEqual(answers(calls), STARTED + LIT_GREEN + REFUSED + QUIET * 2)

    def test_refused_second_start_leaves_who_it_is(self):
        self.assertEqual(answers([0, 1, 5, 0, 0, 0, 3, 1]), STARTED + REFUSED + QUIET)
        self.assertEqual(answers([0, 0, 5, 0, 1, 0, 3, 1]), STARTED + REFUSED + LIT_GREEN)


if __name__ == "__main__":
    unittest.main()

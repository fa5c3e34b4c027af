"""The interface: one list of calls in, one list of answers out."""

import unittest

from onelane.desk import answers


class DeskTest(unittest.TestCase):
    def test_documented_answer(self):
        self.assertEqual(answers([0, 0, 5, 1]), [4, 0, 1, 1, 0, 4, -13, 1, 2, 2])

    def test_one_call(self):
        self.assertEqual(answers([0, 1, 1000]), [4, 0, 1, 1, 0])
        self.assertEqual(answers([0, 7, 1000]), [2, -22, 0])

    def test_thousand_calls(self):
        cases = (
            ([0, 0, 5] + [1] * 999, [4, 0, 1, 1, 0] + [4, -13, 1, 2, 2] * 999),
            ([0, 0, 5, 3, 1] + [1, 2] * 499, [4, 0, 1, 1, 0, 4, 0, 1, 1, 1] + [2, 0, 0] * 998),
            ([0, 2, 5] * 1000, [2, -22, 0] * 1000),
        )
        for calls, expected in cases:
            # Not assertEqual: it works for minutes to show how two lists of this length differ.
            self.assertTrue(answers(calls) == expected, calls[:8])

    def test_numbers_that_look_like_calls(self):
        # A most of 3, a yes of 3 and a me of 0 belong to their call and are not calls themselves.
        self.assertEqual(answers([0, 1, 3, 3, 3, 3, 0, 0, 0, 1]),
                         [4, 0, 1, 1, 0, 2, -22, 0, 2, 0, 0, 4, 0, 1, 1, 0])

    def test_list_handed_in_stays(self):
        calls = [0, 0, 5, 3, 1, 1, 2, 3, 2, 0, 2, 2, 0, 1, 7, 1]
        before = list(calls)
        answers(calls)
        self.assertEqual(calls, before)

    def test_second_run_is_as_the_first(self):
        calls = [0, 0, 5, 3, 1, 1, 2, 3, 2]
        first = answers(calls)
        other = answers([0, 1, 5, 1])
        self.assertEqual(answers(calls), first)
        self.assertEqual(answers([0, 1, 5, 1]), other)

    def test_what_was_given_back_is_not_kept(self):
        calls = [0, 0, 5, 3, 1]
        first = answers(calls)
        kept = list(first)
        first.clear()
        self.assertEqual(answers(calls), kept)

    def test_only_whole_numbers_in_a_list(self):
        given = answers([0, 0, 5, 3, 1, 1, 2, 3, 2, 0, 1, 5, 1])
        self.assertIs(list, type(given))
        self.assertEqual({type(number) for number in given}, {int})


if __name__ == "__main__":
    unittest.main()

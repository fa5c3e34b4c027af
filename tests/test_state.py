"""Point 5: rw_state."""

import unittest

from ends import (EVERY_STANDING, GAVE_AND_HAD_AT_1, GAVE_AT_1, GREEN_AT_0, IN, OUT, STATE, TICK, WAITS_AT_1, ask,
                  given, heard, last, played, probes, start, waiting)
from onelane.desk import answers


class StateTest(unittest.TestCase):
    def test_beginning(self):
        self.assertEqual(last([start(0, 5), STATE]), [0, 0, 0, 1, 0, 0, 0, 0])
        self.assertEqual(last([start(1, 5), STATE]), [0, 0, 0, 0, 0, 0, 0, 0])

    def test_as_it_is_written(self):
        self.assertEqual(answers([0, 0, 5, 6]), [4, 0, 1, 1, 0, 10, 0, 0, 0, 0, 1, 0, 0, 0, 0, 0])

    def test_green(self):
        self.assertEqual(last(GREEN_AT_0 + [STATE]), [0, 0, 0, 1, 1, 0, 0, 0])
        self.assertEqual(last(GREEN_AT_0 + [TICK, IN, TICK, IN, IN, OUT, TICK, STATE]), [0, 3, 1, 1, 1, 0, 3, 0])

    def test_counts_at_a_red_light(self):
        for me in (0, 1):
            self.assertEqual(last([start(me, 5), IN, OUT, OUT, IN, OUT, STATE])[:3], [0, 2, 3])

    def test_waits(self):
        self.assertEqual(last(WAITS_AT_1 + [STATE]), [1, 0, 0, 2, 0, 2, 0, 0])
        self.assertEqual(last(WAITS_AT_1 + [IN, OUT, STATE]), [1, 1, 1, 2, 0, 2, 0, 0])
        self.assertEqual(last(WAITS_AT_1 + [OUT, OUT, STATE]), [1, 0, 2, 1, 0, 0, 0, 0])

    def test_no_count_of_the_other_end_once_it_gave(self):
        calls = WAITS_AT_1 + [heard(ask(0, 1)), OUT, OUT, STATE]
        self.assertEqual(last(calls), [2, 0, 2, 0, 0, 0, 0, 0])

    def test_asked(self):
        self.assertEqual(last(GREEN_AT_0 + [TICK, heard(ask(1, 0)), STATE]), [0, 0, 0, 1, 1, 0, 1, 1])
        self.assertEqual(last(GREEN_AT_0 + [heard(ask(1, 3)), STATE]), [0, 0, 0, 1, 1, 0, 0, 1])

    def test_not_asked_without_the_right(self):
        for before in ([start(1, 5)], WAITS_AT_1):
            self.assertEqual(last(before + [heard(ask(0, 9)), STATE])[7], 0)
        self.assertEqual(last(GAVE_AT_1 + [heard(ask(1, 9)), STATE])[7], 0)

    def test_gave(self):
        for before in (GAVE_AT_1, GAVE_AND_HAD_AT_1):
            self.assertEqual(last(before + [STATE]), [1, 0, 0, 0, 0, 0, 0, 0])

    def test_red_again_after_green(self):
        calls = GREEN_AT_0 + [IN, heard(ask(1, 0))] + [TICK] * 5 + [STATE]
        self.assertEqual(last(calls), [1, 1, 0, 0, 0, 0, 0, 0])
        self.assertEqual(last(calls + [waiting(0), heard(given(1, 2)), STATE]), [2, 1, 0, 1, 0, 0, 0, 0])

    def test_changes_nothing(self):
        for before in EVERY_STANDING.values():
            me = before[0][1]
            asked_often = played(before + [STATE] * 3 + probes(me))
            self.assertEqual(asked_often[:len(before)] + asked_often[len(before) + 3:], played(before + probes(me)))
            states = asked_often[len(before):len(before) + 3]
            self.assertEqual(states, [states[0]] * 3)


if __name__ == "__main__":
    unittest.main()

"""The part: the right to the lane (its messages, and its promises 1 to 3).

Its promises 4 and 5 are tested by the calls that rest on them, rw_heard, rw_tick and rw_state.
"""

import unittest

from onelane.message import check_of, made_message
from onelane.right import GAVE, HAS, WAITS, Right


def begun(me):
    right = Right()
    right.rl_start(me)
    right.take_told()
    return right


class MessageTest(unittest.TestCase):
    def test_known_checks(self):
        # The check values that RFC 3720 and the catalogues of CRCs give for CRC-32C.
        self.assertEqual(check_of(list(b"123456789")), 0xE3069283)
        self.assertEqual(check_of([0] * 32), 0x8A9136AA)
        self.assertEqual(check_of([255] * 32), 0x62A8AB43)
        self.assertEqual(check_of(list(range(32))), 0x46DD794E)
        self.assertEqual(check_of([]), 0)

    def test_bytes_in_order(self):
        message = made_message(1, 1, 0x01020304, 0xFFEEDDCC)
        self.assertEqual(message[:12], [1, 1, 0, 0, 4, 3, 2, 1, 0xCC, 0xDD, 0xEE, 0xFF])
        self.assertEqual(message[12:], list(check_of(message[:12]).to_bytes(4, "little")))
        self.assertEqual(len(message), 16)


class LightTest(unittest.TestCase):
    def test_start(self):
        right = Right()
        self.assertEqual((right.rl_start(2), right.take_told()), (-22, []))
        self.assertEqual((right.rl_start(1), right.take_told()), (0, [[1, 0]]))
        self.assertEqual((right.standing, right.had, right.turn), (GAVE, True, 0))
        self.assertEqual((right.rl_start(0), right.take_told()), (0, [[1, 0]]))
        self.assertEqual((right.standing, right.turn), (HAS, 0))

    def test_start_again(self):
        right = begun(0)
        right.rl_in()
        right.rl_out()
        right.rl_give()
        right.take_told()
        self.assertEqual((right.rl_start(3), right.turn, right.driven_in, right.come_out), (-22, 1, 1, 1))
        self.assertEqual((right.rl_start(0), right.turn, right.driven_in, right.come_out), (0, 0, 0, 0))
        self.assertEqual((right.standing, right.green, right.take_told()), (HAS, False, [[1, 0]]))

    def test_green_and_red(self):
        right = begun(0)
        self.assertEqual((right.rl_red(), right.take_told()), (-11, []))
        self.assertEqual((right.rl_green(), right.take_told()), (0, [[1, 1]]))
        self.assertEqual((right.rl_green(), right.take_told()), (-16, []))
        self.assertEqual((right.rl_red(), right.take_told()), (0, [[1, 0]]))

    def test_no_green_without_the_right(self):
        right = begun(1)
        self.assertEqual((right.rl_green(), right.green, right.take_told()), (-11, False, []))
        right.standing = WAITS
        self.assertEqual((right.rl_green(), right.green, right.take_told()), (-11, False, []))


class CountTest(unittest.TestCase):
    def test_in_is_counted_at_red_and_at_green(self):
        right = begun(0)
        self.assertEqual((right.rl_in(), right.take_told(), right.driven_in), (-13, [[2, 2]], 1))
        right.rl_green()
        right.take_told()
        self.assertEqual((right.rl_in(), right.take_told(), right.driven_in), (0, [], 2))

    def test_out_is_counted(self):
        for me in (0, 1):
            right = begun(me)
            self.assertEqual((right.rl_out(), right.take_told(), right.come_out), (0, [], 1))

    def test_out_brings_the_right_once_all_have_come(self):
        right = begun(1)
        right.standing = WAITS
        right.other_count = 2
        self.assertEqual((right.rl_out(), right.take_told(), right.standing), (0, [], WAITS))
        self.assertEqual((right.rl_out(), right.take_told(), right.standing), (0, [[2, 1]], HAS))
        self.assertEqual((right.rl_out(), right.take_told(), right.standing), (0, [], HAS))
        self.assertFalse(right.green)

    def test_out_brings_the_right_where_more_have_come(self):
        right = begun(1)
        right.come_out = 5
        right.standing = WAITS
        right.other_count = 2
        self.assertEqual((right.rl_out(), right.take_told(), right.standing), (0, [[2, 1]], HAS))

    def test_out_brings_nothing_to_one_that_gave(self):
        right = begun(1)
        self.assertEqual((right.rl_out(), right.standing), (0, GAVE))


class GiveTest(unittest.TestCase):
    def test_given(self):
        right = begun(0)
        right.rl_in()
        right.rl_in()
        right.take_told()
        self.assertEqual(right.rl_give(), 0)
        self.assertEqual(right.take_told(), [[0] + made_message(1, 0, 1, 2)])
        self.assertEqual((right.turn, right.standing, right.had), (1, GAVE, False))

    def test_given_by_end_1(self):
        right = begun(1)
        right.standing = HAS
        right.turn = 257
        self.assertEqual(right.rl_give(), 0)
        self.assertEqual(right.take_told(), [[0] + made_message(1, 1, 258, 0)])

    def test_refused(self):
        right = begun(0)
        right.rl_green()
        right.take_told()
        self.assertEqual((right.rl_give(), right.turn, right.standing, right.take_told()), (-16, 0, HAS, []))
        other = begun(1)
        self.assertEqual((other.rl_give(), other.turn, other.had, other.take_told()), (-11, 0, True, []))
        other.standing = WAITS
        self.assertEqual((other.rl_give(), other.turn, other.take_told()), (-11, 0, []))


if __name__ == "__main__":
    unittest.main()

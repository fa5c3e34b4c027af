"""What an end does when it's looked at, where the other end has asked too."""

import unittest

from onelane.message import made_message
from onelane.right import GAVE, HAS, WAITS
from onelane.works import NEVER, Works

GREEN = [1, 1]
RED = [1, 0]


def given(me, turn, count):
    return [0] + made_message(1, me, turn, count)


def begun(me, most):
    works = Works()
    works.rw_start(me, most)
    works.right.take_told()
    return works


def told_by(works, answer):
    return (answer, works.right.take_told())


def green_end(most, ask, ticks):
    works = begun(0, most)
    works.rw_waiting(1)
    works.right.take_told()
    works.ask = ask
    works.green_ticks = ticks
    return works


class GreenTest(unittest.TestCase):
    def test_green_until_most_ticks(self):
        works = green_end(5, 0, 4)
        self.assertEqual(told_by(works, works.rw_in()), (0, []))
        works.green_ticks = 5
        self.assertEqual(told_by(works, works.rw_in()), (0, [RED, given(0, 1, 2)]))
        self.assertEqual((works.right.green, works.right.standing), (False, GAVE))

    def test_green_past_most_ticks_when_asked_late(self):
        works = green_end(1, 0, 7)
        self.assertEqual(told_by(works, works.rw_out()), (0, [RED, given(0, 1, 0)]))

    def test_green_for_good_when_not_asked(self):
        works = green_end(5, NEVER, 1000)
        self.assertEqual(told_by(works, works.rw_waiting(0)), (0, []))

    def test_ask_of_an_earlier_turn_is_none(self):
        works = green_end(5, 3, 5)
        works.right.turn = 4
        self.assertEqual(told_by(works, works.rw_waiting(1)), (0, []))

    def test_ask_of_a_later_turn_is_one(self):
        works = green_end(5, 9, 5)
        works.right.turn = 4
        self.assertEqual(told_by(works, works.rw_waiting(1)), (0, [RED, given(0, 5, 0)]))


class RedTest(unittest.TestCase):
    def test_given_when_asked_and_nobody_waits(self):
        works = begun(0, 5)
        works.ask = 0
        self.assertEqual(told_by(works, works.rw_waiting(0)), (0, [given(0, 1, 0)]))

    def test_drive_in_at_red_is_looked_at(self):
        works = begun(0, 5)
        works.ask = 0
        self.assertEqual(told_by(works, works.rw_in()), (-13, [[2, 2], given(0, 1, 1)]))

    def test_green_first_when_somebody_waits(self):
        works = begun(0, 5)
        works.ask = 0
        works.green_ticks = 3
        self.assertEqual(told_by(works, works.rw_waiting(1)), (0, [GREEN]))
        self.assertEqual((works.green_ticks, works.was_green), (0, True))

    def test_given_when_it_was_green_in_this_turn(self):
        works = begun(0, 5)
        works.ask = 0
        works.was_green = True
        self.assertEqual(told_by(works, works.rw_waiting(1)), (0, [given(0, 1, 0)]))

    def test_green_again_in_this_turn_when_not_asked(self):
        works = begun(0, 5)
        works.was_green = True
        self.assertEqual(told_by(works, works.rw_waiting(1)), (0, [GREEN]))

    def test_refused_waiting_is_not_looked_at(self):
        works = begun(0, 5)
        works.ask = 0
        self.assertEqual(told_by(works, works.rw_waiting(2)), (-22, []))
        self.assertEqual(works.right.standing, HAS)


class WithoutTheRightTest(unittest.TestCase):
    def test_neither_given_nor_green(self):
        for standing in (GAVE, WAITS):
            for yes in (0, 1):
                works = begun(1, 5)
                works.right.standing = standing
                works.right.other_count = 9
                works.ask = 0
                self.assertEqual(told_by(works, works.rw_waiting(yes)), (0, []))
                self.assertEqual(told_by(works, works.rw_out()), (0, []))
                self.assertEqual((works.right.turn, works.right.standing), (0, standing))

    def test_not_asked(self):
        for standing, asked in ((GAVE, False), (WAITS, False), (HAS, True)):
            works = begun(1, 5)
            works.right.standing = standing
            works.ask = 0
            self.assertIs(works.is_asked(), asked)

    def test_right_that_comes_by_an_out_is_looked_at(self):
        cases = ((0, NEVER, []), (1, NEVER, [GREEN]), (0, 1, [given(1, 2, 0)]), (1, 1, [GREEN]))
        for yes, ask, told in cases:
            with self.subTest(yes=yes, ask=ask):
                works = begun(1, 5)
                works.rw_waiting(yes)
                works.ask = ask
                works.right.standing = WAITS
                works.right.turn = 1
                works.right.other_count = 1
                self.assertEqual(told_by(works, works.rw_out()), (0, [[2, 1]] + told))

    def test_new_turn_was_not_green_yet(self):
        works = green_end(1, 0, 1)
        self.assertEqual(told_by(works, works.rw_in()), (0, [RED, given(0, 1, 1)]))
        works.right.standing = WAITS
        works.right.turn = 2
        works.right.other_count = 1
        works.ask = 2
        self.assertEqual(told_by(works, works.rw_out()), (0, [[2, 1], GREEN]))


class StartAgainTest(unittest.TestCase):
    def test_everything_begins_anew(self):
        works = green_end(5, 0, 2)
        works.rw_in()
        works.rw_out()
        works.rw_start(0, 7)
        self.assertEqual((works.most, works.waiting, works.ask, works.green_ticks, works.was_green),
                         (7, False, NEVER, 0, False))
        right = works.right
        self.assertEqual((right.turn, right.driven_in, right.come_out, right.green), (0, 0, 0, False))

    def test_refused_start_changes_nothing(self):
        for me, most in ((2, 7), (1, 0), (1, 1001)):
            works = green_end(5, 0, 2)
            works.rw_in()
            before = (dict(vars(works)), dict(vars(works.right)))
            self.assertEqual(told_by(works, works.rw_start(me, most)), (-22, []))
            self.assertEqual((dict(vars(works)), dict(vars(works.right))), before)


if __name__ == "__main__":
    unittest.main()

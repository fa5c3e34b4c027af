"""The right to the lane, as one end holds it.

What is told besides an answer is kept in `told`, in order, each thing as the list of its numbers.
"""

from onelane.message import GIVEN, made_message

SEND = 0
LIGHT = 1
TELLS = 2

CAME_TO_HAVE = 1
DROVE_IN_AT_RED = 2

GAVE = 0
HAS = 1
WAITS = 2

HAS_NOT = -11
NOT_ALLOWED = -13
IS_GREEN = -16
WRONG_NUMBER = -22


class Right:
    def __init__(self):
        self.told = []
        self.begin_right(0)

    def begin_right(self, me):
        self.me = me
        self.turn = 0
        self.driven_in = 0
        self.come_out = 0
        self.standing = HAS if me == 0 else GAVE
        # End 1 begins as if it had given the right and that was had, so that it never sends it again.
        self.had = True
        self.green = False
        self.other_count = 0

    def take_told(self):
        told = self.told
        self.told = []
        return told

    def rl_start(self, me):
        if me > 1:
            return WRONG_NUMBER
        self.begin_right(me)
        self.told.append([LIGHT, 0])
        return 0

    def rl_green(self):
        if self.standing != HAS:
            return HAS_NOT
        if self.green:
            return IS_GREEN
        self.green = True
        self.told.append([LIGHT, 1])
        return 0

    def rl_red(self):
        if not self.green:
            return HAS_NOT
        self.green = False
        self.told.append([LIGHT, 0])
        return 0

    def rl_in(self):
        # Counted at a red light too: the other end must wait for whoever is on the lane.
        self.driven_in += 1
        if self.green:
            return 0
        self.told.append([TELLS, DROVE_IN_AT_RED])
        return NOT_ALLOWED

    def rl_out(self):
        self.come_out += 1
        if self.standing == WAITS and self.come_out >= self.other_count:
            self.standing = HAS
            self.told.append([TELLS, CAME_TO_HAVE])
        return 0

    def rl_give(self):
        if self.standing != HAS:
            return HAS_NOT
        if self.green:
            return IS_GREEN
        self.turn += 1
        self.standing = GAVE
        self.had = False
        self.told.append([SEND] + made_message(GIVEN, self.me, self.turn, self.driven_in))
        return 0

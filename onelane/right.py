"""The right to the lane, as one end holds it.

What is told besides an answer is kept in `told`, in order, each thing as the list of its numbers.
"""

from onelane.message import GIVEN, HAD, count_of, is_right, kind_of, made_message, turn_of

SEND = 0
LIGHT = 1
TELLS = 2

CAME_TO_HAVE = 1
DROVE_IN_AT_RED = 2

# These three are the numbers by which the state is told, too.
GAVE = 0
HAS = 1
WAITS = 2

HAS_NOT = -11
NOT_ALLOWED = -13
IS_GREEN = -16
WRONG_NUMBER = -22
NOT_RIGHT = -71

AGAIN_EVERY = 10


class Right:
    def __init__(self):
        self.told = []
        self.begin_right(0)

    def begin_right(self, me):
        self.me = me
        self.turn = 0
        self.driven_in = 0
        self.come_out = 0
        self.standing = HAS if me == 0 else GAVE
        # End 1 begins as if it had given the right and that was had, so that it never sends it again.
        self.had = True
        self.green = False
        self.other_count = 0
        self.ticks = 0

    def take_told(self):
        told = self.told
        self.told = []
        return told

    def send_message(self, kind, turn, count):
        self.told.append([SEND] + made_message(kind, self.me, turn, count))

    def other_end(self):
        return 1 - self.me

    def rl_start(self, me):
        if me > 1:
            return WRONG_NUMBER
        self.begin_right(me)
        self.told.append([LIGHT, 0])
        return 0

    def rl_green(self):
        if self.standing != HAS:
            return HAS_NOT
        if self.green:
            return IS_GREEN
        self.green = True
        self.told.append([LIGHT, 1])
        return 0

    def rl_red(self):
        if not self.green:
            return HAS_NOT
        self.green = False
        self.told.append([LIGHT, 0])
        return 0

    def rl_in(self):
        # Counted at a red light too: the other end must wait for whoever is on the lane.
        self.driven_in += 1
        if self.green:
            return 0
        self.told.append([TELLS, DROVE_IN_AT_RED])
        return NOT_ALLOWED

    def rl_out(self):
        self.come_out += 1
        if self.standing == WAITS:
            self.have_if_all_out()
        return 0

    def have_if_all_out(self):
        if self.come_out >= self.other_count:
            self.standing = HAS
            self.told.append([TELLS, CAME_TO_HAVE])

    def rl_give(self):
        if self.standing != HAS:
            return HAS_NOT
        if self.green:
            return IS_GREEN
        self.turn += 1
        self.standing = GAVE
        self.had = False
        self.send_message(GIVEN, self.turn, self.driven_in)
        return 0

    def rl_heard(self, message):
        if not is_right(message, self.other_end()):
            return NOT_RIGHT
        if kind_of(message) == GIVEN:
            self.heard_given(turn_of(message), count_of(message))
        else:
            self.heard_had(turn_of(message))
        return 0

    def heard_given(self, turn, count):
        if self.standing == GAVE and turn == self.turn + 1:
            self.turn = turn
            self.other_count = count
            self.standing = WAITS
            self.have_if_all_out()
        # Answered each time it comes, since an earlier answer may have been lost.
        if self.standing != GAVE and turn == self.turn:
            self.send_message(HAD, turn, 0)

    def heard_had(self, turn):
        if self.standing == GAVE and turn == self.turn:
            self.had = True

    def is_tenth_tick(self):
        return self.ticks % AGAIN_EVERY == 0

    def rl_tick(self):
        self.ticks += 1
        if self.is_tenth_tick() and self.standing == GAVE and not self.had:
            self.send_message(GIVEN, self.turn, self.driven_in)
        return 0

    def rl_state(self):
        green = 1 if self.green else 0
        other_count = self.other_count if self.standing == WAITS else 0
        return [self.turn, self.driven_in, self.come_out, self.standing, green, other_count]

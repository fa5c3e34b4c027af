"""The machine at one end: it minds the light, by the right, by who waits and by who asks."""

from onelane.message import ASK, is_right_ask, turn_of
from onelane.right import HAS, WRONG_NUMBER, Right

# Below every turn, so that an end that was never asked needs no case of its own.
NEVER = -1

MOST_TICKS = 1000


class Works:
    def __init__(self):
        self.right = Right()
        self.begin_works(1)

    def begin_works(self, most):
        self.most = most
        self.waiting = False
        self.ask = NEVER
        self.green_ticks = 0
        self.was_green = False

    def rw_start(self, me, most):
        if me > 1 or most < 1 or most > MOST_TICKS:
            return WRONG_NUMBER
        self.begin_works(most)
        return self.right.rl_start(me)

    def rw_in(self):
        answer = self.right.rl_in()
        self.look()
        return answer

    def rw_out(self):
        answer = self.right.rl_out()
        self.look()
        return answer

    def rw_waiting(self, yes):
        if yes > 1:
            return WRONG_NUMBER
        self.waiting = yes == 1
        self.look()
        return 0

    def rw_heard(self, message):
        if is_right_ask(message, self.right.other_end()):
            self.ask = max(self.ask, turn_of(message))
            self.look()
            return 0
        answer = self.right.rl_heard(message)
        if answer == 0:
            self.look()
        return answer

    def rw_tick(self):
        self.right.rl_tick()
        if self.right.green:
            self.green_ticks += 1
        if self.right.is_tenth_tick() and self.waiting and not self.has_right():
            self.right.send_message(ASK, self.right.turn, 0)
        self.look()
        return 0

    def rw_state(self):
        green_ticks = self.green_ticks if self.right.green else 0
        asked = 1 if self.is_asked() else 0
        return self.right.rl_state() + [green_ticks, asked]

    def has_right(self):
        return self.right.standing == HAS

    def is_asked(self):
        return self.has_right() and self.ask >= self.right.turn

    def look(self):
        if self.right.green and self.is_asked() and self.green_ticks >= self.most:
            self.right.rl_red()
        if not self.has_right() or self.right.green:
            return
        if self.is_asked() and (not self.waiting or self.was_green):
            self.give_right()
        elif self.waiting:
            # It isn't asked here, or wasn't green in this turn: else the right would be given.
            self.make_green()

    def give_right(self):
        self.right.rl_give()
        # The next turn begins when the right comes back, and nothing is lit until then.
        self.was_green = False

    def make_green(self):
        self.right.rl_green()
        self.green_ticks = 0
        self.was_green = True

"""Point 6: two ends, one against the other, over an air that loses, doubles and delays."""

import random
import unittest

from ends import IN, OUT, TICK, heard, in_one_list, start, taken_apart, waiting
from onelane.desk import answers, called, with_told
from onelane.works import Works

TURN, DRIVEN_IN, COME_OUT, STANDING, IS_GREEN, OTHER_COUNT, GREEN_TICKS, ASKED = range(8)
GAVE, HAS = range(2)


class End:
    """One end, with all that it was called and all that it answered."""

    def __init__(self, me, most):
        self.me = me
        self.most = most
        self.works = Works()
        self.calls = []
        self.numbers = []
        self.somebody = False
        self.light = None
        self.asked_in = None
        self.ticks_asked = 0

    def call(self, call):
        """Answers what is sent; the light is kept as it was told."""
        row = call[2:] if call[0] == 4 else []
        block = with_told(called(self.works, call[0], call[1:], row), self.works.right.take_told())
        self.calls.append(call)
        self.numbers += [len(block)] + block
        answer, told = taken_apart([call], [len(block)] + block)[0]
        for thing in told:
            if thing[0] == 1:
                self.light = thing[1]
        return answer, [thing[1:] for thing in told if thing[0] == 0]

    def state(self):
        return self.works.rw_state()


class Road:
    """Both ends, the air between them, and the lane."""

    def __init__(self, test, seed, most):
        self.test = test
        self.chance = random.Random(seed)
        self.ends = [End(0, most[0]), End(1, most[1])]
        self.air = ([], [])
        self.lane = []
        self.queues = [0, 0]
        self.reds_by_ticks = 0
        for end in self.ends:
            self.tell(end, start(end.me, end.most))

    def tell(self, end, call, expected=0):
        answer, messages = end.call(call)
        self.test.assertEqual(answer, expected)
        for numbers in messages:
            # Lost, once, or doubled; when it comes, chance tells.
            for _ in range(self.chance.choice((0, 0, 1, 1, 1, 2))):
                self.air[1 - end.me].append(numbers)
        self.check_road()

    def check_road(self):
        states = [end.state() for end in self.ends]
        if None in (self.ends[0].light, self.ends[1].light):
            return
        test = self.test
        test.assertLessEqual(len(set(self.lane)), 1)
        test.assertNotEqual([state[STANDING] for state in states], [HAS, HAS])
        for end, state in zip(self.ends, states):
            test.assertEqual(end.light, state[IS_GREEN])
            if state[IS_GREEN] == 1:
                test.assertEqual(state[STANDING], HAS)
                test.assertNotIn(1 - end.me, self.lane)
            if state[STANDING] == HAS and state[ASKED] == 0 and end.somebody:
                test.assertEqual(state[IS_GREEN], 1)

    def tick(self, end):
        before = end.state()
        self.tell(end, TICK)
        after = end.state()
        if before[IS_GREEN] == 0 or before[ASKED] == 0:
            return
        if end.asked_in != before[TURN]:
            end.asked_in = before[TURN]
            end.ticks_asked = 0
        end.ticks_asked += 1
        if end.ticks_asked == end.most or after[IS_GREEN] == 0:
            self.reds_by_ticks += 1
            self.test.assertEqual((after[IS_GREEN], after[STANDING], after[TURN]), (0, GAVE, before[TURN] + 1))

    def say_who_waits(self, end):
        end.somebody = self.queues[end.me] > 0
        self.tell(end, waiting(1 if end.somebody else 0))

    def arrive(self, end):
        self.queues[end.me] += 1
        self.say_who_waits(end)

    def drive_in(self, end):
        if self.queues[end.me] > 0 and end.light == 1:
            self.queues[end.me] -= 1
            self.lane.append(end.me)
            self.tell(end, IN)
            if self.queues[end.me] == 0:
                self.say_who_waits(end)

    def come_out(self):
        if self.lane:
            self.tell(self.ends[1 - self.lane.pop(0)], OUT)

    def bring(self, end):
        coming = self.air[end.me]
        if coming:
            place = self.chance.randrange(len(coming))
            # Left in the air at times, so that it comes again much later.
            numbers = coming[place] if self.chance.random() < 0.3 else coming.pop(place)
            self.tell(end, heard(numbers))

    def bring_damaged(self, end):
        if self.air[end.me]:
            numbers = list(self.chance.choice(self.air[end.me]))
            numbers[self.chance.randrange(16)] ^= 1 << self.chance.randrange(8)
            self.tell(end, heard(numbers), -71)

    def step(self):
        end = self.chance.choice(self.ends)
        does = self.chance.random()
        if does < 0.5:
            self.tick(end)
        elif does < 0.56:
            self.arrive(end)
        elif does < 0.75:
            self.drive_in(end)
        elif does < 0.87:
            self.come_out()
        elif does < 0.98:
            self.bring(end)
        else:
            self.bring_damaged(end)

    def run(self):
        while max(len(end.calls) for end in self.ends) < 990:
            self.step()


class TwoEndsTest(unittest.TestCase):
    def test_never_two_against_each_other(self):
        turns = 0
        reds_by_ticks = 0
        drivers = [0, 0]
        for seed in range(60):
            most = ((1, 1), (5, 5), (3, 20), (40, 2), (12, 9), (1000, 1))[seed % 6]
            with self.subTest(seed=seed, most=most):
                road = Road(self, seed, most)
                road.run()
                for end in road.ends:
                    self.assertTrue(answers(in_one_list(end.calls)) == end.numbers)
                    drivers[end.me] += end.state()[DRIVEN_IN]
                turns += max(end.state()[TURN] for end in road.ends)
                reds_by_ticks += road.reds_by_ticks
        # Else nothing was tried: the right must have gone to and fro, with many let in at both ends.
        self.assertGreater(turns, 300)
        self.assertGreater(min(drivers), 300)
        self.assertGreater(reds_by_ticks, 100)


class PlainCourseTest(unittest.TestCase):
    """Nothing lost, each message brought at once: every step of it can be told ahead."""

    def carried(self, ends, end, call):
        """Makes the call and brings what it sends, and what that brings forth."""
        answer, messages = ends[end].call(call)
        self.assertGreaterEqual(answer, 0)
        for numbers in messages:
            self.carried(ends, 1 - end, heard(numbers))

    def lights(self, ends):
        return [end.light for end in ends]

    def test_to_and_fro(self):
        ends = [End(0, 4), End(1, 6)]
        for end in (0, 1):
            self.carried(ends, end, start(end, ends[end].most))
        self.carried(ends, 0, waiting(1))
        self.carried(ends, 1, waiting(1))
        self.assertEqual(self.lights(ends), [1, 0])
        self.carried(ends, 0, IN)
        for _ in range(9):
            self.carried(ends, 0, TICK)
            self.carried(ends, 1, TICK)
            self.assertEqual(self.lights(ends), [1, 0])
        # The tenth tick at end 1 brings its ask, and end 0 has been green long enough.
        self.carried(ends, 1, TICK)
        self.assertEqual([end.state() for end in ends], [[1, 1, 0, 0, 0, 0, 0, 0], [1, 0, 0, 2, 0, 1, 0, 0]])
        self.carried(ends, 1, OUT)
        self.assertEqual(self.lights(ends), [0, 1])
        self.carried(ends, 1, IN)
        # End 0 ticks for the tenth time and asks, while somebody waits there.
        self.carried(ends, 0, TICK)
        self.assertEqual(ends[1].state(), [1, 1, 1, 1, 1, 0, 0, 1])
        for _ in range(5):
            self.carried(ends, 1, TICK)
            self.assertEqual(self.lights(ends), [0, 1])
        self.carried(ends, 1, TICK)
        self.assertEqual([end.state() for end in ends], [[2, 1, 0, 2, 0, 1, 0, 0], [2, 1, 1, 0, 0, 0, 0, 0]])
        self.carried(ends, 0, OUT)
        self.assertEqual(self.lights(ends), [1, 0])


if __name__ == "__main__":
    unittest.main()

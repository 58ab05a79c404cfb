"""Two sides over a link that loses, doubles, delays, disorders and damages what they send."""

import random
import unittest

from tests.helpers import LEFT, LEFT_PORT, RIGHT, RIGHT_PORT, stuff
from twosidesyard import calls
from twosidesyard.side import Side

ADDRESSES = (LEFT, RIGHT)


class BadLink:
    def __init__(self, seed, loss):
        self.chance = random.Random(seed)
        self.loss = loss
        self.now = 0
        self.sides = [Side(), Side()]
        self.written = [[], []]
        self.left_to_write = [stuff(self.chance.randrange(30000), start) for start in (1, 2)]
        self.has_read = [[], []]
        self.end_told = [False, False]
        self.on_the_way = []
        bases = [self.chance.choice([0, 2 ** 32 - 1, 2 ** 32 - 3000]) for _ in range(2)]
        calls.wait_side(self.sides[1], RIGHT, RIGHT_PORT, bases[1], 0)
        calls.open_side(self.sides[0], LEFT, LEFT_PORT, RIGHT, RIGHT_PORT, bases[0], 0)
        self.collect(0)

    def collect(self, which):
        for octets in self.sides[which].outbox:
            for _ in range(2 if self.chance.random() < self.loss else 1):
                if self.chance.random() >= self.loss:
                    at = self.now + self.chance.randrange(1, 120)
                    self.on_the_way.append((at, self.chance.random(), which, self.maybe_harmed(octets)))
        self.sides[which].outbox = []

    def maybe_harmed(self, octets):
        if self.chance.random() >= self.loss / 3:
            return octets
        if self.chance.random() < 0.5:
            return octets[:self.chance.randrange(len(octets))]
        harmed = list(octets)
        harmed[self.chance.randrange(len(octets))] ^= self.chance.randrange(1, 256)
        return harmed

    def deliver(self):
        ready = sorted(one for one in self.on_the_way if one[0] <= self.now)
        self.on_the_way = [one for one in self.on_the_way if one[0] > self.now]
        for _, _, which, octets in ready:
            calls.came(self.sides[1 - which], ADDRESSES[which], self.now, octets)
            self.collect(1 - which)

    def use(self, which):
        side = self.sides[which]
        left = self.left_to_write[which]
        if left is not None and side.phase in (2, 3, 4):
            piece = left[:self.chance.randrange(1, 6000)]
            taken = calls.write(side, self.now, piece)[0]
            self.written[which] += left[:taken]
            self.left_to_write[which] = left[taken:]
            if not self.left_to_write[which] and calls.close(side, self.now) == [0]:
                self.left_to_write[which] = None
        answer = calls.read(side, self.now, self.chance.choice([0, 100, 9000]))
        if answer[0] >= 0:
            self.has_read[which] += answer[1:]
        elif answer == [-6]:
            self.end_told[which] = True
        calls.tick(side, self.now)
        self.collect(which)

    def run(self, steps):
        for _ in range(steps):
            if all(self.end_told) and not self.on_the_way and all(side.phase >= 5 for side in self.sides):
                return
            self.now += self.chance.randrange(1, 60)
            self.deliver()
            self.use(0)
            self.use(1)


class Stream(unittest.TestCase):
    def check(self, link):
        for which in (0, 1):
            there = link.has_read[which]
            self.assertEqual(there, link.written[1 - which][:len(there)])
            if link.sides[which].coming.ended and not link.sides[which].coming.unread:
                self.assertEqual(there, link.written[1 - which])

    def test_a_link_that_is_not_too_bad_brings_all(self):
        for seed in range(25):
            with self.subTest(seed=seed):
                link = BadLink(seed, 0.02 + 0.01 * (seed % 10))
                link.run(30000)
                self.check(link)
                self.assertEqual([link.end_told, link.left_to_write], [[True, True], [None, None]])
                self.assertEqual(link.has_read, [link.written[1], link.written[0]])

    def test_however_bad_it_is_what_is_read_was_written(self):
        for seed in range(15):
            with self.subTest(seed=seed):
                link = BadLink(1000 + seed, 0.3 + 0.05 * (seed % 8))
                link.run(3000)
                self.check(link)


if __name__ == "__main__":
    unittest.main()

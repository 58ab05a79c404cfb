"""Two sides over a link that loses, doubles, delays, disorders and damages what they send."""

import random
import unittest

from tests.helpers import (
    Running, ask, bring, close, cut, damage, due, keep, meet, read, reset, rush, sent, stuff, tick, told, write,
)

BASES = (0, 2 ** 32 - 1, 2 ** 32 - 3000)


class BadLink:
    """Both sides write and read, while what they send is lost, doubled, delayed, cut and damaged by chance."""

    def __init__(self, seed, loss):
        self.chance = random.Random(seed)
        self.loss = loss
        self.now = 0
        self.running = Running()
        self.seen = 0
        self.written = [[], []]
        self.left_to_write = [stuff(self.chance.randrange(30000), start) for start in (1, 2)]
        self.has_read = [[], []]
        self.end_told = [False, False]
        self.on_the_way = []
        self.ask(meet(self.chance.choice(BASES), self.chance.choice(BASES), 0))

    def ask(self, call):
        """What's answered; what was sent thereby is on its way then, or lost."""
        answer = self.running.ask(call)
        for number in range(self.seen, answer[-1]):
            for _ in range(2 if self.chance.random() < self.loss else 1):
                if self.chance.random() >= self.loss:
                    at = self.now + self.chance.randrange(1, 120)
                    self.on_the_way.append((at, self.chance.random(), number))
        self.seen = answer[-1]
        return answer[:-1]

    def coming(self, number):
        if self.chance.random() >= self.loss / 3:
            return bring(number, self.now)
        octets = self.running.ask(sent(number))[4:]
        if self.chance.random() < 0.5:
            return cut(number, self.now, self.chance.randrange(len(octets)))
        place = self.chance.randrange(len(octets))
        return damage(number, self.now, place, octets[place] + self.chance.randrange(1, 256))

    def deliver(self):
        ready = sorted(one for one in self.on_the_way if one[0] <= self.now)
        self.on_the_way = [one for one in self.on_the_way if one[0] > self.now]
        for _, _, number in ready:
            self.ask(self.coming(number))

    def use(self, side):
        left = self.left_to_write[side]
        if left is not None and self.running.told(side, "phase") in (2, 3, 4):
            taken = self.ask(write(side, self.now, left[:self.chance.randrange(1, 6000)]))[0]
            if taken > 0:
                self.written[side] += left[:taken]
                self.left_to_write[side] = left[taken:]
            if not self.left_to_write[side] and self.ask(close(side, self.now)) == [0]:
                self.left_to_write[side] = None
        answer = self.ask(read(side, self.now, self.chance.choice([0, 100, 9000])))
        if answer[0] >= 0:
            self.has_read[side] += answer[1:]
        elif answer == [-6]:
            self.end_told[side] = True
        self.ask(tick(side, self.now))

    def is_done(self):
        phases = [self.running.told(side, "phase") for side in (0, 1)]
        return all(self.end_told) and not self.on_the_way and min(phases) >= 5

    def run(self, steps):
        for _ in range(steps):
            if self.is_done():
                return
            self.now += self.chance.randrange(1, 60)
            self.deliver()
            self.use(0)
            self.use(1)


class Stream(unittest.TestCase):
    def check(self, link):
        for side in (0, 1):
            there = link.has_read[side]
            self.assertEqual(there, link.written[1 - side][:len(there)])
            if link.running.told(side, "ended") and link.running.told(side, "unread") == 0:
                self.assertEqual(there, link.written[1 - side])

    def test_a_link_that_is_not_too_bad_brings_all(self):
        for seed in range(25):
            with self.subTest(seed=seed):
                link = BadLink(seed, 0.02 + 0.01 * (seed % 10))
                link.run(30000)
                self.check(link)
                self.assertEqual([link.end_told, link.left_to_write], [[True, True], [None, None]])
                self.assertEqual(link.has_read, [link.written[1], link.written[0]])

    def test_however_bad_it_is_what_is_read_was_written(self):
        for seed in range(15):
            with self.subTest(seed=seed):
                link = BadLink(1000 + seed, 0.3 + 0.05 * (seed % 8))
                link.run(3000)
                self.check(link)


def any_call(chance, now, left, count):
    """A call by chance; what's written are the next bytes of those that are left."""
    side = chance.randrange(2)
    number = max(0, count - chance.randrange(12))
    size = chance.choice([1, 40, 1400, 5000])
    about = [due(side), told(side), sent(number), keep(side, now, chance.choice([0, 1, 300]))]
    of_one = [damage(number, now, chance.randrange(60), chance.randrange(600))]
    of_one += [cut(number, now, chance.choice([0, 20, 30, 9999]))] + 4 * [bring(number, now)]
    of_side = [write(side, now, left[side][:size]), read(side, now, chance.choice([0, 7, 5000])), tick(side, now)]
    calls = about + 3 * of_one + 2 * of_side + [rush(now)]
    if chance.random() < 0.02:
        calls = [reset(side, now), meet(chance.choice(BASES), chance.choice(BASES), now)] + 4 * [close(side, now)]
    return chance.choice(calls)


def any_line(seed):
    chance = random.Random(seed)
    left = [stuff(15000, 3), stuff(15000, 4)]
    now = chance.choice([0, 2 ** 62 - 10 ** 6])
    running = Running()
    line = [meet(chance.choice(BASES), chance.choice(BASES), now)]
    while sum(len(call) for call in line) < 10000 and len(line) < 290:
        running.ask(line[-1])
        call = any_call(chance, now, left, running.ask(told(0))[-1])
        if call[0] == 2:
            left[call[1]] = left[call[1]][call[3]:]
        line.append(call)
        now += chance.choice([0, 0, 1, 40, 250])
    return line


class AnyLine(unittest.TestCase):
    """Lines of calls by chance, asked as they stand."""

    def check_reading(self, line, given):
        for call, answer in zip(line, given):
            if call[0] == 1:
                written = [[], []]
                closed = [False, False]
                has_read = [0, 0]
            elif call[0] == 2 and answer[0] > 0:
                written[call[1]] += call[4:4 + answer[0]]
            elif call[0] == 4 and answer[0] == 0:
                closed[call[1]] = True
            elif call[0] == 3 and answer[0] > 0:
                side = call[1]
                there = written[1 - side][has_read[side]:]
                self.assertEqual(answer[1:-1], there[:answer[0]])
                has_read[side] += answer[0]
            elif call[0] == 9 and answer[16] == 1:
                self.assertTrue(closed[1 - call[1]])
                self.assertEqual(has_read[call[1]] + answer[13], len(written[1 - call[1]]))

    def test_each_reads_a_beginning_of_what_the_other_wrote(self):
        for seed in range(150):
            with self.subTest(seed=seed):
                line = any_line(seed) + [told(0), told(1), read(0, 2 ** 62, 10 ** 6), read(1, 2 ** 62, 10 ** 6)]
                self.check_reading(line, ask(*line))

    def test_a_second_time_it_is_answered_as_the_first(self):
        for seed in range(150, 170):
            with self.subTest(seed=seed):
                line = any_line(seed)
                self.assertEqual(ask(*line), ask(*line))

    def test_the_count_never_falls_but_with_meeting_anew(self):
        for seed in range(170, 190):
            with self.subTest(seed=seed):
                line = any_line(seed)
                count = 0
                for call, answer in zip(line, ask(*line)):
                    if call[0] == 1:
                        count = 0
                    if call[0] != 10 and len(answer) > 1:
                        self.assertGreaterEqual(answer[-1], count)
                        count = answer[-1]


if __name__ == "__main__":
    unittest.main()

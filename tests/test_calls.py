"""A side's own calls: their arguments, their refusals and the order of these."""

import unittest

from tests.helpers import (
    BEGIN, LEFT, LEFT_PORT, RIGHT, RIGHT_PORT, TIME_END, Lone, encode, opened, stuff,
)
from twosidesyard import calls
from twosidesyard.side import Side


class OpenAndWait(unittest.TestCase):
    def test_arguments_that_may_not_be(self):
        good = [LEFT, 1024, RIGHT, 7, 0, 0]
        wrong = {0: (0, 2 ** 32 - 1), 1: (0, 65536), 2: (0, 2 ** 32 - 1), 3: (0, 65536)}
        wrong.update({4: (-1, 2 ** 32), 5: (-1, TIME_END + 1)})
        for at, values in wrong.items():
            for value in values:
                arguments = good[:at] + [value] + good[at + 1:]
                self.assertEqual(calls.open_side(Side(), *arguments), [-1])
                if at not in (2, 3):
                    waiting = arguments[:2] + arguments[4:]
                    self.assertEqual(calls.wait_side(Side(), *waiting), [-1])

    def test_arguments_at_their_ends(self):
        self.assertEqual(calls.open_side(Side(), 1, 1, 2 ** 32 - 2, 65535, 2 ** 32 - 1, TIME_END), [0])
        self.assertEqual(calls.wait_side(Side(), 2 ** 32 - 2, 65535, 2 ** 32 - 1, TIME_END), [0])

    def test_only_in_phases_0_and_6(self):
        lone = Lone()
        self.assertEqual(calls.open_side(lone.side, LEFT, 1, RIGHT, 1, 0, 5000), [-4])
        self.assertEqual(calls.wait_side(lone.side, LEFT, 1, 0, 5000), [-4])
        self.assertEqual(lone.said(), [])
        self.assertEqual(calls.open_side(lone.side, LEFT, 1, RIGHT, 1, 2 ** 32, 5000), [-1])
        calls.reset(lone.side, 0)
        self.assertEqual(calls.wait_side(lone.side, LEFT, 1, 0, 0), [0])
        self.assertEqual(lone.told("phase"), 1)

    def test_who_waits_begins_at_its_time(self):
        side = Side()
        calls.wait_side(side, LEFT, LEFT_PORT, 0, 500)
        octets = encode((RIGHT_PORT, LEFT_PORT), 9, 0, BEGIN, 1, [], [], RIGHT, LEFT)
        self.assertEqual(calls.came(side, RIGHT, 100, octets), [0])
        self.assertEqual(calls.due(side), [1, 1500])
        calls.reset(side, 700)
        calls.wait_side(side, LEFT, LEFT_PORT, 0, 600)
        self.assertEqual(side.now, 700)

    def test_a_new_side_and_time_stays(self):
        lone = opened()
        lone.write([1, 2, 3])
        lone.call("reset", 700)
        self.assertEqual(calls.open_side(lone.side, LEFT, 1024, RIGHT, 7, 5, 0), [0])
        self.assertEqual(calls.told(lone.side), [0, 2, 0, 0, 0, 0, 1, 1, 0, 5600, 1048576, 1000, 0, 0, 0, 0, 0])
        self.assertEqual(lone.due(), 1700)


class Came(unittest.TestCase):
    def octets(self, ports=(RIGHT_PORT, LEFT_PORT), sender=RIGHT):
        return encode(ports, 5000, 1001, BEGIN + 4, 1024, [], [], sender, LEFT)

    def test_arguments_that_may_not_be(self):
        side = Lone().side
        for sender in (0, 2 ** 32 - 1):
            self.assertEqual(calls.came(side, sender, 0, self.octets()), [-1])
        self.assertEqual(calls.came(side, RIGHT, TIME_END + 1, self.octets()), [-1])
        self.assertEqual(side.now, 0)

    def test_phases_0_and_6(self):
        self.assertEqual(calls.came(Side(), RIGHT, 0, []), [-4])
        side = Lone().side
        calls.reset(side, 0)
        self.assertEqual(calls.came(side, RIGHT, 0, self.octets()), [-4])

    def test_no_segment_comes_ahead_of_whose_it_is(self):
        side = Lone().side
        self.assertEqual(calls.came(side, RIGHT + 1, 0, []), [-3])
        self.assertEqual(calls.came(side, RIGHT + 1, 0, self.octets()), [-3])

    def test_ports_and_sender(self):
        side = Lone().side
        self.assertEqual(calls.came(side, RIGHT, 0, self.octets((8, 1024))), [-2])
        self.assertEqual(calls.came(side, RIGHT, 0, self.octets((7, 1025))), [-2])
        self.assertEqual(calls.came(side, RIGHT + 1, 0, self.octets(sender=RIGHT + 1)), [-2])
        self.assertEqual(calls.came(side, RIGHT, 0, self.octets()), [0])

    def test_who_waits_looks_at_its_own_port(self):
        side = Side()
        calls.wait_side(side, LEFT, LEFT_PORT, 0, 0)
        self.assertEqual(calls.came(side, RIGHT, 0, self.octets((7, 1025))), [-2])
        self.assertEqual(calls.came(side, RIGHT, 0, self.octets((8, 1024))), [0])

    def test_time_goes_on_all_the_same(self):
        side = Lone().side
        self.assertEqual(calls.came(side, RIGHT, 1000, []), [-3])
        self.assertEqual(len(side.outbox), 1)

    def test_what_is_handed_in_stays(self):
        lone = opened()
        octets = lone.octets(data=[1, 2, 3])
        before = list(octets)
        calls.came(lone.side, RIGHT, 0, octets)
        self.assertEqual(octets, before)


class WriteAndRead(unittest.TestCase):
    def test_what_is_written_is_not_changed(self):
        lone = opened()
        data = stuff(3000)
        calls.write(lone.side, 0, data)
        lone.feed(acked=1401)
        self.assertEqual(data, stuff(3000))
        data.clear()
        self.assertEqual(lone.told("unacked"), 1600)

    def test_2_to_30_in_all(self):
        lone = opened()
        lone.side.sending.written = 2 ** 30 - 2
        self.assertEqual(calls.write(lone.side, 0, [1, 2, 3]), [2])
        self.assertEqual(calls.write(lone.side, 0, [1]), [0])

    def test_phase_3_may_be_written_and_read(self):
        lone = Lone()
        lone.feed(place=0, flags=BEGIN, acked=None)
        self.assertEqual(lone.told("phase"), 3)
        self.assertEqual(lone.call("read", 0, 5), ([0], []))
        self.assertEqual(lone.call("write", 0, [1]), ([1], []))
        self.assertEqual(lone.call("close", 0), ([0], []))
        self.assertEqual(lone.call("write", 0, [1]), ([-6], []))

    def test_reset_in_phase_3_is_said(self):
        lone = Lone()
        lone.feed(place=0, flags=BEGIN, acked=None)
        answer, said = lone.call("reset", 0)
        self.assertEqual((answer, [one["flags"] for one in said]), ([0], [12]))
        self.assertEqual((lone.told("phase"), lone.told("why"), lone.due()), (6, 4, None))

    def test_what_is_owed_is_paid_by_a_reading_that_tells_room(self):
        lone = opened()
        lone.feed(data=stuff(1400))
        self.assertEqual(lone.due(), 40)
        answer, said = lone.call("read", 0, 1400)
        self.assertEqual([one["wanted"] for one in said], [1401])
        self.assertIsNone(lone.due())


    def test_reading_when_it_is_over_says_nothing(self):
        lone = opened()
        lone.feed(data=stuff(1400))
        lone.feed(place=1401, flags=8)
        self.assertEqual(lone.told("phase"), 6)
        self.assertEqual(lone.call("read", 0, 1400), ([1400] + stuff(1400), []))

    def test_times_that_may_not_be(self):
        named = (("write", [[1]]), ("read", [1]), ("close", []), ("reset", []), ("tick", []), ("keep", [1]))
        for now in (-1, TIME_END + 1):
            for name, rest in named:
                self.assertEqual(opened().call(name, now, *rest), ([-1], []))
        self.assertEqual(opened().call("keep", 0, -1), ([-1], []))


class Due(unittest.TestCase):
    def test_the_earliest(self):
        lone = opened()
        self.assertEqual(calls.due(lone.side), [0])
        lone.call("keep", 0, 500)
        self.assertEqual(calls.due(lone.side), [1, 500])
        lone.feed(data=[1])
        self.assertEqual(calls.due(lone.side), [1, 40])
        lone.tick(40)
        lone.write([1])
        self.assertEqual(calls.due(lone.side), [1, 240])


class Told(unittest.TestCase):
    def test_a_side_that_is_new(self):
        self.assertEqual(calls.told(Side()), [0, 0, 0, 0, 0, 0, 0, 0, 0, 5600, 1048576, 1000, 0, 0, 0, 0, 0])

    def test_in_order(self):
        lone = opened(window=20)
        lone.write(stuff(2000))
        lone.feed(acked=101, window=20, data=[1, 2])
        lone.feed(place=9, acked=101, window=20, data=[1], flags=2)
        self.assertEqual(calls.told(lone.side), [
            0, 4, 0, 2000, 1900, 101, 1281, 1281, 1381, 5700, 1048576, 200, 3, 2, 65537, 1, 0,
        ])


if __name__ == "__main__":
    unittest.main()

"""What a side does as time goes on."""

import unittest

from tests.helpers import ACKED, BEGIN, END, Lone, opened, places, sizes, stuff
from twosidesyard import calls
from twosidesyard.side import Side


class Again(unittest.TestCase):
    def test_a_begin(self):
        lone = Lone()
        said = lone.tick(1000)
        self.assertEqual([(one["place"], one["flags"], one["window"]) for one in said], [(0, BEGIN, 1024)])
        self.assertEqual((lone.told("wait"), lone.due()), (2000, 3000))

    def test_due_after_wait_from_now_on(self):
        lone = Lone()
        lone.tick(1700)
        self.assertEqual(lone.due(), 3700)

    def test_what_is_not_acked_from_first_on(self):
        lone = opened()
        lone.write(stuff(5600))
        said = lone.tick(200)
        self.assertEqual((places(said), sizes(said)), ([1], [1400]))
        names = ("next", "top", "wide", "slow", "wait")
        self.assertEqual([lone.told(name) for name in names], [1401, 5601, 1400, 2800, 400])
        self.assertEqual(lone.due(), 600)

    def test_slow_is_half_of_what_was_on_its_way(self):
        lone = opened()
        lone.write(stuff(20000))
        lone.feed(acked=2801)
        self.assertEqual(lone.told("top") - 2801, 7000)
        lone.tick(200)
        self.assertEqual(lone.told("slow"), 3500)

    def test_nothing_is_held_or_mending_then(self):
        lone = opened()
        lone.write(stuff(5600))
        for count in range(3):
            lone.feed(ranges=[(1401, 2801)])
        said = lone.tick(200)
        self.assertEqual((places(said), sizes(said)), ([1], [1400]))
        self.assertEqual(lone.side.sending.held, [])
        lone.feed(acked=1401)
        self.assertEqual(lone.told("wide"), 2800)

    def test_same_is_0_then(self):
        lone = opened()
        lone.write(stuff(5600))
        lone.feed()
        lone.feed()
        lone.tick(200)
        self.assertEqual(lone.feed(), [])
        self.assertEqual(lone.told("wide"), 1400)
        self.assertEqual(lone.feed(), [])
        lone.feed()
        self.assertEqual(lone.told("wide"), 7000)

    def test_the_end_again(self):
        lone = opened()
        lone.write([1, 2])
        lone.call("close", 0)
        said = lone.tick(200)
        self.assertEqual([(one["place"], one["data"], one["flags"]) for one in said], [(1, [1, 2], END + ACKED)])
        lone.feed(acked=3)
        said = lone.tick(600)
        self.assertEqual([(one["place"], one["data"], one["flags"]) for one in said], [(3, [], END + ACKED)])

    def test_wait_is_60000_at_most(self):
        lone = opened()
        lone.write([1])
        for count in range(8):
            lone.tick(lone.due())
        self.assertEqual(lone.told("wait"), 51200)
        lone.feed(acked=1)
        lone.tick(lone.due())
        self.assertEqual(lone.told("wait"), 60000)
        self.assertEqual(lone.due(), lone.now + 60000)

    def test_over_after_8_tries(self):
        lone = opened()
        lone.write([1])
        for count in range(8):
            self.assertEqual(len(lone.tick(lone.due())), 1)
        self.assertEqual(lone.tick(lone.due()), [])
        self.assertEqual((lone.told("phase"), lone.told("why"), lone.due()), (6, 3, None))

    def test_over_after_5_tries_to_begin(self):
        lone = Lone()
        for count in range(5):
            self.assertEqual(len(lone.tick(lone.due())), 1)
        self.assertEqual(lone.tick(lone.due()), [])
        self.assertEqual((lone.told("phase"), lone.told("why"), lone.due()), (6, 3, None))


class NoRoom(unittest.TestCase):
    def test_one_byte_asks_for_room(self):
        lone = opened(window=0)
        lone.write([7, 8])
        said = lone.tick(200)
        self.assertEqual([(one["place"], one["data"], one["flags"]) for one in said], [(1, [7], ACKED)])
        self.assertEqual([lone.told(name) for name in ("next", "top", "wait")], [2, 2, 400])
        self.assertEqual((lone.due(), lone.side.pace.tries), (600, 0))

    def test_it_is_not_timed(self):
        lone = opened(window=0)
        lone.write([7, 8])
        lone.tick(200)
        lone.feed(now=500, acked=2, window=0)
        self.assertEqual(lone.told("wait"), 400)

    def test_it_asks_again_with_the_same_byte(self):
        lone = opened(window=0)
        lone.write([7, 8])
        lone.tick(200)
        said = lone.tick(600)
        self.assertEqual([(one["place"], one["data"], one["flags"]) for one in said], [(1, [7], ACKED)])
        self.assertEqual([lone.told(name) for name in ("next", "wait")], [2, 800])
        self.assertEqual((lone.due(), lone.side.pace.tries), (1400, 1))

    def test_the_end_goes_with_the_last_byte(self):
        lone = opened(window=0)
        lone.write([7])
        lone.call("close", 0)
        said = lone.tick(200)
        self.assertEqual([(one["data"], one["flags"]) for one in said], [([7], END + ACKED)])
        self.assertEqual(lone.told("next"), 3)
        said = lone.tick(600)
        self.assertEqual([(one["data"], one["flags"]) for one in said], [([7], END + ACKED)])

    def test_room_that_comes_is_used(self):
        lone = opened(window=0)
        lone.write([7, 8])
        lone.tick(200)
        said = lone.feed(acked=2, window=1)
        self.assertEqual([one["data"] for one in said], [[8]])

    def test_nothing_left_is_nothing_due(self):
        lone = opened(window=0)
        lone.write([7])
        lone.side.sending.next_place = 2
        self.assertEqual(lone.tick(200), [])
        self.assertIsNone(lone.due())


class KeptUp(unittest.TestCase):
    def test_it_asks_from_the_place_before_top(self):
        lone = opened()
        lone.write([1, 2])
        lone.feed(acked=3)
        self.assertEqual(lone.call("keep", 100, 900), ([0], []))
        self.assertEqual(lone.due(), 1000)
        said = lone.tick(1000)
        self.assertEqual([(one["place"], one["data"], one["flags"]) for one in said], [(2, [], ACKED)])
        self.assertEqual(lone.due(), 11000)

    def test_over_after_5_askings(self):
        lone = opened()
        lone.call("keep", 0, 1)
        for count in range(5):
            self.assertEqual(lone.due(), 1 + 10000 * count)
            self.assertEqual(len(lone.tick(lone.due())), 1)
        lone.tick(50000)
        self.assertEqual(lone.told("phase"), 4)
        self.assertEqual(lone.tick(50001), [])
        self.assertEqual((lone.told("phase"), lone.told("why"), lone.due()), (6, 3, None))

    def test_what_comes_is_heard(self):
        lone = opened()
        lone.call("keep", 0, 1000)
        lone.tick(1000)
        lone.feed(now=1500)
        self.assertEqual(lone.due(), 2500)

    def test_not_while_something_is_on_its_way(self):
        lone = opened()
        lone.call("keep", 0, 50)
        lone.write([1])
        self.assertEqual(lone.due(), 200)
        self.assertEqual(lone.tick(199), [])

    def test_an_ack_is_said_ahead_of_an_asking(self):
        lone = opened()
        lone.write([1, 2])
        lone.feed(acked=3, data=[1])
        lone.call("keep", 0, 40)
        said = lone.tick(40)
        self.assertEqual([one["place"] for one in said], [3, 2])

    def test_a_waiting_side_keeps_it(self):
        side = Side()
        calls.wait_side(side, 1, 1, 0, 0)
        self.assertEqual(calls.keep(side, 0, 50), [0])
        self.assertEqual(calls.due(side), [0])
        self.assertEqual(side.pace.kept_up, 50)


class Order(unittest.TestCase):
    def test_an_ack_is_said_ahead_of_what_is_due(self):
        lone = opened()
        lone.write([1, 2])
        lone.feed(data=[1])
        self.assertEqual(lone.due(), 40)
        said = lone.tick(200)
        self.assertEqual([(one["place"], one["data"]) for one in said], [(3, []), (1, [1, 2])])

    def test_time_goes_on_ahead_of_what_comes(self):
        lone = opened()
        lone.write([1])
        said = lone.feed(now=200, acked=2)
        self.assertEqual([(one["place"], one["data"]) for one in said], [(1, [1])])
        self.assertEqual((lone.told("first"), lone.told("wait")), (2, 400))

    def test_who_has_lingered_takes_nothing(self):
        lone = opened()
        lone.call("close", 0)
        lone.feed(acked=2, flags=END)
        self.assertEqual(lone.told("phase"), 5)
        self.assertEqual(calls.came(lone.side, 167772162, 60000, lone.octets(flags=END)), [-4])


if __name__ == "__main__":
    unittest.main()

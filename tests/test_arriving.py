"""What comes, phase by phase, and what of it is taken."""

import unittest

from tests.helpers import (
    ACKED, BEGIN, END, LEFT, LEFT_PORT, RESET, RIGHT, RIGHT_PORT, Lone, decode, encode, opened, stuff,
)
from twosidesyard import calls
from twosidesyard.side import Side


class Waiting(unittest.TestCase):
    """Phase 1: the right side waits with base 50."""

    def setUp(self):
        self.side = Side()
        self.assertEqual(calls.wait_side(self.side, RIGHT, RIGHT_PORT, 50, 0), [0])

    def feed(self, flags, number=900, acked=0, window=3, data=(), sender=LEFT, port=LEFT_PORT, now=0):
        octets = encode((port, RIGHT_PORT), number, acked, flags, window, [], data, sender, RIGHT)
        self.assertEqual(calls.came(self.side, sender, now, octets), [0])
        said = [decode(octets) for octets in self.side.outbox]
        self.side.outbox = []
        return said

    def test_a_begin_is_answered(self):
        said = self.feed(BEGIN, now=5)
        self.assertEqual(len(said), 1)
        self.assertEqual((said[0]["flags"], said[0]["number"], said[0]["acked"]), (BEGIN + ACKED, 50, 901))
        self.assertEqual((said[0]["from"], said[0]["to"], said[0]["window"]), (RIGHT_PORT, LEFT_PORT, 1024))
        self.assertEqual(calls.told(self.side), [0, 3, 0, 0, 0, 0, 1, 1, 193, 5600, 1048576, 1000, 1, 0, 65537, 0, 0])
        self.assertEqual(calls.due(self.side), [1, 1005])

    def test_its_answer_is_timed(self):
        self.feed(BEGIN, now=5)
        self.feed(ACKED, number=901, acked=51, now=305)
        self.assertEqual(calls.told(self.side)[11], 900)

    def test_anyone_may_begin(self):
        said = self.feed(BEGIN, sender=99, port=98)
        self.assertEqual(said[0]["to"], 98)
        octets = encode((97, RIGHT_PORT), 901, 51, ACKED, 3, [], [], 99, RIGHT)
        self.assertEqual(calls.came(self.side, 99, 0, octets), [-2])
        octets = encode((98, RIGHT_PORT), 901, 51, ACKED, 3, [], [], LEFT, RIGHT)
        self.assertEqual(calls.came(self.side, LEFT, 0, octets), [-2])

    def test_a_begins_data_and_end_are_not_looked_at(self):
        self.feed(BEGIN + END, data=[1, 2])
        self.assertEqual(calls.told(self.side)[12:], [1, 0, 65537, 0, 0])

    def test_a_reset_is_nothing(self):
        self.assertEqual(self.feed(RESET + ACKED + BEGIN), [])
        self.assertEqual(calls.told(self.side)[1], 1)

    def test_what_acks_is_refused(self):
        for flags in (ACKED, ACKED + BEGIN):
            said = self.feed(flags, acked=12345, sender=99, port=98)
            self.assertEqual(len(said), 1)
            self.assertEqual((said[0]["number"], said[0]["acked"], said[0]["flags"]), (12345, 0, RESET))
            self.assertEqual((said[0]["to"], said[0]["window"], said[0]["ranges"]), (98, 0, []))
        self.assertEqual(calls.told(self.side)[1], 1)

    def test_a_refusal_goes_to_its_sender(self):
        octets = encode((98, RIGHT_PORT), 1, 2, ACKED, 3, [], [], 99, RIGHT)
        calls.came(self.side, 99, 0, octets)
        answer = encode((RIGHT_PORT, 98), 2, 0, RESET, 0, [], [], RIGHT, 99)
        self.assertEqual(self.side.outbox, [answer])

    def test_anything_else_is_nothing(self):
        self.assertEqual(self.feed(0, data=[1]), [])
        self.assertEqual(self.feed(END), [])
        self.assertEqual(calls.told(self.side)[1], 1)

    def test_phase_3_looks_at_what_is_acked(self):
        self.feed(BEGIN)
        for acked in (50, 52, 40):
            said = self.feed(ACKED, number=901, acked=acked)
            self.assertEqual([(one["number"], one["flags"]) for one in said], [(acked, RESET)])
        self.assertEqual(calls.told(self.side)[1], 3)
        self.assertEqual(self.feed(ACKED, number=901, acked=51), [])
        self.assertEqual(calls.told(self.side)[1], 4)
        self.assertEqual(calls.told(self.side)[5], 1)
        self.assertEqual(calls.told(self.side)[9], 5601)
        self.assertEqual(calls.due(self.side), [0])

    def test_phase_3_goes_on_with_its_tries_until_acked(self):
        self.feed(BEGIN)
        calls.tick(self.side, 1000)
        calls.tick(self.side, 3000)
        self.assertEqual(len(self.side.outbox), 2)
        self.assertEqual([decode(octets)["flags"] for octets in self.side.outbox], [BEGIN + ACKED] * 2)
        self.feed(ACKED, number=901, acked=51, now=3500)
        self.assertEqual(self.side.pace.tries, 0)
        self.assertEqual(calls.told(self.side)[11], 4000)

    def test_what_was_written_in_phase_3_is_sent_when_it_is_open(self):
        self.feed(BEGIN)
        self.assertEqual(calls.write(self.side, 0, [7, 8]), [2])
        self.assertEqual(self.side.outbox, [])
        said = self.feed(ACKED, number=901, acked=51)
        self.assertEqual([(one["number"], one["data"]) for one in said], [(51, [7, 8])])

    def test_a_begin_again_gets_an_ack(self):
        self.feed(BEGIN)
        said = self.feed(BEGIN)
        self.assertEqual([(one["number"], one["flags"], one["acked"]) for one in said], [(51, ACKED, 901)])


class Begun(unittest.TestCase):
    """Phase 2."""

    def test_the_answer_makes_it_open(self):
        lone = Lone()
        said = lone.feed(now=100, place=0, flags=BEGIN, window=9)
        self.assertEqual([(one["place"], one["flags"], one["wanted"]) for one in said], [(1, ACKED, 1)])
        names = ("phase", "first", "next", "top", "room", "wide", "wait", "wanted", "edge")
        self.assertEqual([lone.told(name) for name in names], [4, 1, 1, 1, 577, 5600, 300, 1, 65537])
        self.assertIsNone(lone.due())

    def test_tries_are_0_then(self):
        lone = Lone()
        lone.tick(1000)
        lone.become_open(now=1100)
        self.assertEqual(lone.side.pace.tries, 0)

    def test_what_acks_another_place_is_refused(self):
        for acked in (0, 2, 2 ** 31, -1):
            lone = Lone()
            for flags in (0, BEGIN):
                said = lone.feed(place=0, flags=flags, acked=acked)
                number = (lone.base + acked) % 2 ** 32
                self.assertEqual([(one["number"], one["flags"]) for one in said], [(number, RESET)])
                self.assertEqual((said[0]["acked"], said[0]["window"]), (0, 0))
            self.assertEqual(lone.told("phase"), 2)

    def test_a_reset(self):
        lone = Lone()
        for acked in (None, 0, 2):
            self.assertEqual(lone.feed(flags=RESET, acked=acked), [])
            self.assertEqual(lone.told("phase"), 2)
        self.assertEqual(lone.feed(flags=RESET + BEGIN, acked=1), [])
        self.assertEqual((lone.told("phase"), lone.told("why")), (6, 2))
        self.assertIsNone(lone.due())

    def test_both_have_begun(self):
        lone = Lone()
        said = lone.feed(now=400, place=0, flags=BEGIN, acked=None, window=9)
        self.assertEqual([(one["place"], one["flags"], one["wanted"]) for one in said], [(0, BEGIN + ACKED, 1)])
        self.assertEqual((lone.told("phase"), lone.told("room")), (3, 577))
        self.assertEqual(lone.due(), 1000)
        lone.feed(now=500)
        self.assertEqual((lone.told("phase"), lone.told("wait")), (4, 1500))

    def test_what_is_acked_counts_only_if_it_acks(self):
        lone = Lone(base=2 ** 32 - 1)
        said = lone.feed(place=0, flags=BEGIN, acked=None)
        self.assertEqual([one["flags"] for one in said], [BEGIN + ACKED])
        self.assertEqual(lone.told("phase"), 3)

    def test_the_begin_was_heard(self):
        lone = Lone()
        lone.call("keep", 0, 500)
        lone.become_open(now=300)
        self.assertEqual(lone.due(), 800)

    def test_anything_else_is_nothing(self):
        lone = Lone()
        self.assertEqual(lone.feed(data=[1]), [])
        self.assertEqual(lone.feed(acked=None, data=[1]), [])
        self.assertEqual((lone.told("phase"), lone.told("unread")), (2, 0))


class Talking(unittest.TestCase):
    """Phases 3 to 5."""

    def test_what_fits_with_places(self):
        lone = opened()
        lone.feed(data=[1, 2, 3])
        self.assertEqual(lone.told("wanted"), 4)
        self.assertEqual(len(lone.feed(place=1, data=[1, 2, 3])), 1)
        self.assertEqual(lone.told("wanted"), 4)
        lone.feed(place=2, data=[9, 9, 4])
        self.assertEqual(lone.call("read", 0, 9)[0], [4, 1, 2, 3, 4])
        edge = lone.told("edge")
        lone.feed(place=edge - 1, data=[1, 2])
        self.assertEqual((lone.told("pieces"), lone.side.coming.pieces), (1, [(edge - 1, [1])]))
        lone.feed(place=edge, data=[1])
        self.assertEqual(lone.told("pieces"), 1)

    def test_what_fits_without_places(self):
        lone = opened()
        lone.write(stuff(1400))
        edge = lone.told("edge")
        for place in (0, edge + 3, -1, 2 ** 31):
            said = lone.feed(place=place, acked=1401)
            self.assertEqual([(one["flags"], one["place"]) for one in said], [(ACKED, 1401)])
            self.assertEqual(lone.told("first"), 1)
        for place, acked in ((1, 500), (edge, 600), (edge + 2, 700)):
            lone.feed(place=place, acked=acked)
            self.assertEqual(lone.told("first"), acked)

    def test_what_does_not_fit_was_not_heard(self):
        lone = opened()
        lone.call("keep", 0, 500)
        lone.feed(now=100, place=0)
        self.assertEqual(lone.due(), 500)
        lone.feed(now=200, place=1, acked=None)
        self.assertEqual(lone.due(), 700)

    def test_begin_and_end_have_a_place_each(self):
        lone = opened()
        lone.feed(data=[1, 2])
        lone.call("keep", 0, 500)
        edge = lone.told("edge")
        unfit = [(place, flags, data) for place in (1, 2, edge) for flags, data in ((BEGIN, []), (END, []), (0, [1]))]
        unfit += [(1, BEGIN + END, []), (1, BEGIN, [1]), (1, END, [1]), (edge, BEGIN + END, [1])]
        for place, flags, data in unfit:
            lone.feed(now=100, place=place, flags=flags, data=data)
            self.assertEqual((lone.due(), lone.told("ended")), (500, 0))
        fit = [(3, BEGIN, []), (2, BEGIN + END, []), (2, BEGIN, [1]), (edge - 1, BEGIN, []), (2, 0, [1, 2])]
        for now, (place, flags, data) in enumerate(fit, start=101):
            lone.feed(now=now, place=place, flags=flags, data=data)
            self.assertEqual(lone.side.pace.heard, now)

    def test_a_reset_at_wanted_ends_it(self):
        lone = opened()
        lone.write([1])
        lone.feed(data=[5])
        self.assertEqual(lone.feed(place=2, flags=RESET, acked=None), [])
        self.assertEqual((lone.told("phase"), lone.told("why")), (6, 2))
        self.assertIsNone(lone.due())

    def test_another_reset_gets_an_ack_or_nothing(self):
        lone = opened()
        said = lone.feed(place=2, flags=RESET)
        self.assertEqual([(one["flags"], one["place"]) for one in said], [(ACKED, 1)])
        self.assertEqual(lone.feed(place=0, flags=RESET), [])
        self.assertEqual(lone.feed(place=10 ** 6, flags=RESET), [])
        self.assertEqual(lone.told("phase"), 4)

    def test_a_begin_gets_an_ack(self):
        lone = opened()
        for place in (0, 1, 5):
            said = lone.feed(place=place, flags=BEGIN, data=[1])
            self.assertEqual([one["flags"] for one in said], [ACKED])
        self.assertEqual((lone.told("wanted"), lone.told("pieces")), (1, 0))

    def test_what_does_not_ack_is_nothing(self):
        lone = opened()
        self.assertEqual(lone.feed(acked=None, data=[1, 2]), [])
        self.assertEqual(lone.told("unread"), 0)

    def test_an_ack_above_top(self):
        lone = opened()
        lone.write([1])
        said = lone.feed(acked=3, data=[1], window=2000)
        self.assertEqual([(one["flags"], one["wanted"]) for one in said], [(ACKED, 1)])
        self.assertEqual((lone.told("first"), lone.told("unread"), lone.told("room")), (1, 0, 65537))

    def test_an_acked_place_below_0_counts_as_0(self):
        lone = opened()
        lone.write([1])
        lone.feed(acked=-5, data=[1])
        self.assertEqual((lone.told("first"), lone.told("unread")), (1, 1))
        self.assertEqual(lone.told("room"), 65537)
        lone.feed(place=2, acked=-5, window=2000)
        self.assertEqual(lone.told("room"), 128000)

    def test_every_ack_that_may_be_sets_tries_to_0(self):
        lone = opened()
        lone.write([1])
        lone.tick(200)
        self.assertEqual(lone.side.pace.tries, 1)
        lone.feed(acked=1)
        self.assertEqual(lone.side.pace.tries, 0)


class Taken(unittest.TestCase):
    def test_an_ack_is_owed_after_40(self):
        lone = opened(now=10)
        self.assertEqual(lone.feed(data=[1, 2]), [])
        self.assertEqual(lone.due(), 50)

    def test_the_second_segment_gets_an_ack_at_once(self):
        lone = opened()
        lone.feed(data=[1])
        said = lone.feed(place=2, data=[2])
        self.assertEqual([(one["flags"], one["wanted"]) for one in said], [(ACKED, 3)])
        self.assertIsNone(lone.due())

    def test_what_is_sent_pays_what_is_owed(self):
        lone = opened()
        lone.feed(data=[1])
        self.assertEqual([one["wanted"] for one in lone.write([5])], [2])
        self.assertEqual(lone.feed(place=2, acked=2, data=[2]), [])
        self.assertEqual(lone.due(), 40)

    def test_pieces_get_an_ack_at_once(self):
        lone = opened()
        said = lone.feed(place=5, data=[5, 6])
        self.assertEqual([(one["wanted"], one["ranges"]) for one in said], [(1, [(5005, 5007)])])
        said = lone.feed(place=1, data=[1, 2])
        self.assertEqual([(one["wanted"], one["ranges"]) for one in said], [(3, [(5005, 5007)])])
        said = lone.feed(place=3, data=[3, 4])
        self.assertEqual([(one["wanted"], one["ranges"]) for one in said], [(7, [])])
        self.assertEqual(lone.call("read", 0, 9)[0], [6, 1, 2, 3, 4, 5, 6])

    def test_what_is_there_stays(self):
        lone = opened()
        lone.feed(place=4, data=[4, 5])
        lone.feed(place=8, data=[8])
        lone.feed(place=2, data=[20, 30, 40, 50, 60, 70, 80, 90])
        self.assertEqual(lone.side.coming.pieces, [(2, [20, 30, 4, 5, 60, 70, 8, 90])])

    def test_pieces_that_touch_are_one(self):
        lone = opened()
        lone.feed(place=5, data=[5])
        lone.feed(place=7, data=[7])
        self.assertEqual(lone.told("pieces"), 2)
        lone.feed(place=6, data=[6])
        self.assertEqual(lone.told("pieces"), 1)
        lone.feed(place=8, data=[8])
        lone.feed(place=4, data=[4])
        self.assertEqual(lone.side.coming.pieces, [(4, [4, 5, 6, 7, 8])])
        lone.feed(place=5, data=[50, 60])
        self.assertEqual(lone.side.coming.pieces, [(4, [4, 5, 6, 7, 8])])

    def test_the_end(self):
        lone = opened()
        said = lone.feed(data=[1], flags=END)
        self.assertEqual([(one["flags"], one["wanted"]) for one in said], [(ACKED, 3)])
        self.assertEqual((lone.told("ended"), lone.told("unread")), (1, 1))

    def test_the_end_ahead_of_bytes(self):
        lone = opened()
        said = lone.feed(place=3, flags=END)
        self.assertEqual([one["wanted"] for one in said], [1])
        self.assertEqual(lone.told("ended"), 0)
        self.assertEqual(lone.feed(data=[1, 2]), [])
        self.assertEqual((lone.told("ended"), lone.told("wanted"), lone.due()), (1, 4, 40))

    def test_only_the_first_end_is_known(self):
        lone = opened()
        lone.feed(place=3, flags=END)
        lone.feed(place=2, flags=END)
        lone.feed(place=1, data=[1])
        self.assertEqual((lone.told("ended"), lone.told("wanted")), (0, 2))
        lone.feed(place=2, data=[2])
        self.assertEqual((lone.told("ended"), lone.told("wanted")), (1, 4))

    def test_an_end_beyond_the_edge_is_not_known(self):
        lone = opened()
        edge = lone.told("edge")
        lone.feed(place=edge - 1, data=[1, 2], flags=END)
        self.assertIsNone(lone.side.coming.end_place)
        lone.feed(place=edge - 1, data=[1], flags=END)
        self.assertEqual(lone.side.coming.end_place, edge)

    def test_an_end_at_the_edge_leaves_no_window(self):
        lone = opened()
        place = 1
        while place < 65537:
            size = min(1400, 65537 - place)
            flags = END if place + size == 65537 else 0
            said = lone.feed(place=place, data=stuff(size, place), flags=flags)
            place += size
        self.assertEqual([(one["wanted"], one["window"]) for one in said], [(65538, 0)])
        self.assertEqual((lone.told("wanted"), lone.told("edge"), lone.told("unread")), (65538, 65537, 65536))
        self.assertEqual(lone.call("read", 0, 1)[1], [])

    def test_nothing_is_taken_once_the_end_has_come(self):
        lone = opened()
        lone.feed(flags=END)
        said = lone.feed(place=2, data=[1, 2])
        self.assertEqual([(one["wanted"], one["ranges"]) for one in said], [(2, [])])
        self.assertEqual((lone.told("unread"), lone.told("pieces")), (0, 0))


class Ending(unittest.TestCase):
    def test_who_closed_before_the_others_end_came_lingers(self):
        lone = opened()
        lone.call("close", 0)
        lone.feed(now=10, acked=2)
        self.assertEqual(lone.told("phase"), 4)
        said = lone.feed(now=20, acked=2, flags=END)
        self.assertEqual([one["wanted"] for one in said], [2])
        self.assertEqual((lone.told("phase"), lone.due()), (5, 60020))
        lone.tick(60019)
        self.assertEqual(lone.told("phase"), 5)
        lone.tick(60020)
        self.assertEqual((lone.told("phase"), lone.told("why")), (6, 1))

    def test_who_closed_after_it_is_over(self):
        lone = opened()
        lone.feed(flags=END)
        lone.call("close", 0)
        lone.feed(place=2, acked=1)
        self.assertEqual(lone.told("phase"), 4)
        lone.feed(place=2, acked=2)
        self.assertEqual((lone.told("phase"), lone.told("why")), (6, 1))
        self.assertIsNone(lone.due())

    def test_it_lingers_on_while_the_end_comes_again(self):
        lone = opened()
        lone.call("close", 0)
        lone.feed(acked=2, flags=END)
        said = lone.feed(now=500, acked=2, flags=END)
        self.assertEqual([(one["flags"], one["place"], one["wanted"]) for one in said], [(ACKED, 2, 2)])
        self.assertEqual(lone.due(), 60500)
        self.assertEqual(lone.feed(now=600, place=1, flags=RESET), [])
        self.assertEqual(lone.due(), 60500)
        self.assertEqual(lone.feed(now=700, place=2, acked=2), [])
        self.assertEqual(lone.due(), 60500)

    def test_not_while_bytes_are_not_acked(self):
        lone = opened()
        lone.write([1, 2])
        lone.call("close", 0)
        lone.feed(acked=3, flags=END)
        self.assertEqual(lone.told("phase"), 4)
        lone.feed(place=2, acked=4)
        self.assertEqual(lone.told("phase"), 5)

    def test_a_reset_while_it_lingers(self):
        lone = opened()
        lone.call("close", 0)
        lone.feed(acked=2, flags=END)
        lone.feed(place=2, flags=RESET)
        self.assertEqual((lone.told("phase"), lone.told("why")), (6, 2))
        self.assertIsNone(lone.due())


if __name__ == "__main__":
    unittest.main()

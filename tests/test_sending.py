"""What a side sends by itself, what's acked, and what's sent anew."""

import unittest

from tests.helpers import ACKED, BEGIN, END, Lone, opened, places, sizes, stuff


class AllThatMayBeSent(unittest.TestCase):
    def test_1400_at_most_a_segment_5600_on_their_way(self):
        lone = opened()
        said = lone.write(stuff(20000))
        self.assertEqual((places(said), sizes(said)), ([1, 1401, 2801, 4201], [1400] * 4))
        self.assertEqual([one["data"] for one in said], [stuff(5600)[k:k + 1400] for k in range(0, 5600, 1400)])
        self.assertEqual([lone.told(name) for name in ("first", "next", "top")], [1, 5601, 5601])

    def test_the_other_has_no_room(self):
        lone = opened(window=30)
        self.assertEqual(sizes(lone.write(stuff(5000))), [1400])
        self.assertEqual(sizes(lone.feed(acked=1401, window=10)), [640])
        self.assertEqual(lone.told("room"), 2041)

    def test_room_never_goes_back(self):
        lone = opened(window=100)
        lone.feed(window=1)
        self.assertEqual(lone.told("room"), 6401)

    def test_few_bytes_wait_while_some_are_on_their_way(self):
        lone = opened()
        self.assertEqual(sizes(lone.write(stuff(1399))), [1399])
        self.assertEqual(sizes(lone.write([1])), [])
        self.assertEqual(sizes(lone.write(stuff(1399))), [1400])
        self.assertEqual(sizes(lone.write([2])), [])
        self.assertEqual(sizes(lone.feed(acked=2800)), [1])

    def test_the_last_bytes_do_not_wait_and_have_the_end(self):
        lone = opened()
        lone.write([1])
        lone.write([2, 3])
        said = lone.call("close", 0)[1]
        self.assertEqual([(one["place"], one["data"], one["flags"]) for one in said], [(2, [2, 3], END + ACKED)])
        self.assertEqual([lone.told(name) for name in ("next", "top")], [5, 5])

    def test_few_bytes_wait_when_closing_but_not_up_to_last(self):
        lone = opened(window=40)
        self.assertEqual(sizes(lone.write(stuff(2000))), [1400])
        self.assertEqual(lone.write(stuff(1000)), [])
        said = lone.call("close", 0)[1]
        self.assertEqual(said, [])
        said = lone.feed(window=43)
        self.assertEqual(said, [])
        said = lone.feed(window=50)
        self.assertEqual([(one["place"], len(one["data"]), one["flags"]) for one in said], [
            (1401, 1400, ACKED), (2801, 200, END + ACKED),
        ])

    def test_the_end_alone_needs_no_room(self):
        lone = opened(window=0)
        said = lone.call("close", 0)[1]
        self.assertEqual([(one["place"], one["data"], one["flags"]) for one in said], [(1, [], END + ACKED)])
        self.assertEqual([lone.told(name) for name in ("next", "top")], [2, 2])

    def test_not_ahead_of_phase_4(self):
        lone = Lone()
        self.assertEqual(lone.write([1, 2]), [])
        self.assertEqual(lone.call("close", 0)[1], [])
        said = lone.feed(place=0, flags=BEGIN)
        self.assertEqual([(one["place"], one["data"], one["flags"]) for one in said], [
            (1, [], ACKED), (1, [1, 2], END + ACKED),
        ])

    def test_due_after_wait_also_with_no_room(self):
        lone = opened(window=0)
        self.assertIsNone(lone.due())
        self.assertEqual(lone.write([1, 2], now=50), [])
        self.assertEqual(lone.due(), 250)
        lone.write([3], now=60)
        self.assertEqual(lone.due(), 250)

    def test_what_is_held_is_passed_over(self):
        lone = opened()
        lone.write(stuff(5600))
        lone.feed(ranges=[(1401, 2801), (4201, 5601)])
        lone.tick(200)
        self.assertEqual(lone.told("next"), 1401)
        said = lone.feed(acked=1401, ranges=[(2801, 4001)])
        self.assertEqual((places(said), sizes(said)), ([1401, 4001], [1400, 200]))
        self.assertEqual(lone.told("next"), 4201)


class SentAnew(unittest.TestCase):
    def mending(self, ranges=(), written=5600):
        """A side that has just been told the third time that nothing new came."""
        lone = opened()
        lone.write(stuff(written))
        self.assertEqual(lone.feed(ranges=ranges), [])
        self.assertEqual(lone.feed(ranges=ranges), [])
        return lone, lone.feed(ranges=ranges)

    def test_the_third_ack_that_says_nothing_new(self):
        lone, said = self.mending()
        self.assertEqual((places(said), sizes(said)), ([1], [1400]))
        self.assertEqual((lone.told("slow"), lone.told("wide")), (2800, 7000))

    def test_half_of_what_is_on_its_way_is_slow(self):
        lone = opened()
        lone.write(stuff(20000))
        for acked in (1401, 2801, 4201):
            lone.feed(acked=acked)
        on_its_way = lone.told("top") - lone.told("first")
        self.assertEqual(on_its_way, 9800)
        for count in range(3):
            lone.feed(acked=4201)
        self.assertEqual((lone.told("slow"), lone.told("wide")), (4900, 9100))

    def test_acks_with_data_an_end_or_more_room_do_not_count(self):
        lone = opened()
        lone.write(stuff(5600))
        lone.feed()
        lone.feed()
        lone.feed(data=[1])
        lone.feed(place=2, window=1025)
        self.assertEqual(lone.told("slow"), 1048576)
        lone.feed(place=2, flags=END)
        self.assertEqual(lone.told("slow"), 1048576)
        lone.feed(place=3)
        self.assertEqual(lone.told("slow"), 2800)

    def test_an_ack_of_something_new_begins_the_count_anew(self):
        lone = opened()
        lone.write(stuff(5600))
        lone.feed()
        lone.feed()
        lone.feed(acked=1401)
        lone.feed(acked=1401)
        lone.feed(acked=1401)
        self.assertEqual(lone.told("slow"), 1048576)
        lone.feed(acked=1401)
        self.assertEqual(lone.told("slow"), 2800)

    def test_an_ack_below_first_or_with_nothing_on_its_way_does_not_count(self):
        lone = opened()
        for count in range(4):
            self.assertEqual(lone.feed(), [])
        lone.write(stuff(2800))
        lone.feed(acked=1401)
        for count in range(4):
            lone.feed(acked=1)
        self.assertEqual(lone.told("slow"), 1048576)

    def test_up_to_the_next_range_and_below_the_last_ranges_beginning(self):
        lone, said = self.mending([(701, 1401), (2801, 4201)])
        self.assertEqual((places(said), sizes(said)), ([1], [700]))
        said = lone.feed(ranges=[(701, 1401), (2801, 4201)])
        self.assertEqual((places(said), sizes(said)), ([1401], [1400]))
        self.assertEqual(lone.told("wide"), 8400)
        self.assertEqual(lone.feed(ranges=[(701, 1401), (2801, 4201)]), [])
        self.assertEqual(lone.told("wide"), 9800)

    def test_without_ranges_only_what_is_first(self):
        lone = self.mending()[0]
        self.assertEqual(lone.feed(), [])
        said = lone.feed(acked=1401)
        self.assertEqual((places(said), sizes(said)), ([1401], [1400]))
        self.assertEqual(lone.told("wide"), 8400 - 1400 + 1400)

    def test_an_ack_of_less_than_was_sent_anew(self):
        lone = self.mending([(2801, 4201)])[0]
        said = lone.feed(acked=701, ranges=[(2801, 4201)])
        self.assertEqual((places(said), sizes(said)), ([1401], [1400]))

    def test_wide_loses_no_more_than_it_has(self):
        lone, said = self.mending(written=65536)
        lone.feed()
        for count in range(30):
            lone.feed()
        top = lone.told("top")
        self.assertGreater(top, 40000)
        wide = lone.told("wide")
        lone.feed(acked=5600)
        self.assertEqual(lone.told("wide"), max(0, wide - 5599) + 1400)

    def test_wide_is_1400_at_least_while_mending(self):
        lone = opened()
        lone.write(stuff(65536))
        for acked in range(1401, 30000, 1400):
            lone.feed(acked=acked)
        first = lone.told("first")
        for count in range(3):
            lone.feed(acked=first)
        wide = lone.told("wide")
        gained = lone.told("top") - 1 - first
        self.assertGreater(gained, wide)
        lone.feed(acked=first + gained)
        self.assertEqual(lone.told("wide"), 1400)

    def test_mended(self):
        lone = self.mending()[0]
        self.assertEqual(lone.feed(acked=5601), [])
        self.assertEqual((lone.told("wide"), lone.told("slow")), (2800, 2800))
        lone.write(stuff(2800))
        for count in range(2):
            self.assertEqual(lone.feed(acked=5601), [])
        self.assertEqual(places(lone.feed(acked=5601)), [5601])

    def test_mending_again_begins_at_first_again(self):
        held = [(1401, 2801), (7001, 8401)]
        lone = self.mending(held[:1], written=20000)[0]
        lone.feed(ranges=held[:1])
        # What's sent anew goes beyond what was on its way when it began to mend.
        anew = [lone.feed(ranges=held)[0]["place"] for count in range(3)]
        self.assertEqual(anew, [2801, 4201, 5601])
        lone.feed(acked=5601, ranges=held[1:])
        self.assertEqual(lone.told("wide"), 2800)
        said = [places(lone.feed(acked=5601, ranges=held[1:])) for count in range(3)]
        self.assertEqual((said[:2], said[2][0]), ([[], []], 5601))

    def test_the_end_is_sent_anew_if_it_was_sent(self):
        lone = opened()
        lone.write([1, 2])
        lone.call("close", 0)
        for count in range(3):
            said = lone.feed()
        self.assertEqual([(one["place"], one["data"], one["flags"]) for one in said], [(1, [1, 2], END + ACKED)])

    def test_the_end_goes_with_the_last_bytes_alone(self):
        lone = opened()
        lone.write(stuff(2800))
        lone.call("close", 0)
        for count in range(3):
            said = lone.feed()
        self.assertEqual([(one["place"], len(one["data"]), one["flags"]) for one in said], [(1, 1400, ACKED)])

    def test_an_end_that_was_not_sent_is_not_sent_anew(self):
        lone = opened()
        lone.write(stuff(33600))
        for acked in range(1401, 14002, 1400):
            lone.feed(acked=acked)
        self.assertEqual((lone.told("first"), lone.told("top")), (14001, 33601))
        lone.tick(200)
        self.assertEqual((lone.told("next"), lone.call("close", 200)[1]), (15401, []))
        for count in range(3):
            lone.feed(acked=14001)
        self.assertEqual(lone.told("next"), 28001)
        said = lone.feed(acked=33001)
        self.assertEqual([(one["place"], len(one["data"]), one["flags"]) for one in said], [
            (33001, 600, ACKED), (33001, 600, END + ACKED),
        ])

    def test_the_end_alone_is_sent_anew(self):
        lone = opened()
        lone.call("close", 0)
        for count in range(3):
            said = lone.feed()
        self.assertEqual([(one["place"], one["data"], one["flags"]) for one in said], [(1, [], END + ACKED)])

    def test_nothing_is_timed_then(self):
        lone = self.mending()[0]
        lone.feed(now=199, acked=5601)
        self.assertEqual(lone.told("wait"), 200)

    def test_only_what_was_sent_before(self):
        lone = opened()
        lone.write(stuff(100))
        lone.write(stuff(200))
        for count in range(3):
            said = lone.feed()
        self.assertEqual([(one["place"], one["data"]) for one in said], [(1, stuff(100))])


class Acked(unittest.TestCase):
    def test_what_is_acked_is_gone(self):
        lone = opened()
        lone.write(stuff(5600))
        lone.feed(acked=2001)
        self.assertEqual([lone.told(name) for name in ("first", "unacked", "written")], [2001, 3600, 5600])
        self.assertEqual(lone.feed(acked=1001), [])
        self.assertEqual([lone.told(name) for name in ("first", "unacked")], [2001, 3600])
        said = lone.tick(1000)
        self.assertEqual(said[0]["data"], stuff(5600)[2000:3400])

    def test_due_after_wait_anew_while_some_is_on_its_way(self):
        lone = opened()
        lone.write(stuff(2800))
        self.assertEqual(lone.due(), 200)
        lone.feed(now=100, acked=1401)
        self.assertEqual(lone.due(), 100 + lone.told("wait"))
        lone.feed(now=150, acked=2801)
        self.assertIsNone(lone.due())

    def test_what_is_measured(self):
        lone = Lone()
        lone.become_open(now=300)
        self.assertEqual(lone.told("wait"), 300 + 600)
        lone.write([1], now=1000)
        lone.feed(now=1100, acked=2)
        # off: 600 - 150 + 200; mean: 2400 - 300 + 100.
        self.assertEqual(lone.told("wait"), 275 + 650)
        lone.write([1], now=2000)
        lone.feed(now=2503, acked=3)
        # off: 650 - 162 + (503 - 275); mean: 2200 - 275 + 503 = 2428.
        self.assertEqual(lone.told("wait"), 303 + 716)

    def test_the_first_time_counts_also_if_it_took_none(self):
        lone = opened()
        self.assertEqual(lone.told("wait"), 200)
        lone.write([1])
        lone.feed(now=199, acked=2)
        self.assertEqual(lone.told("wait"), 199 // 8 + 199)

    def test_wait_is_60000_at_most_when_measured(self):
        lone = Lone()
        lone.feed(now=999, place=0, flags=BEGIN)
        self.assertEqual(lone.told("wait"), 999 * 3)
        for count in range(30):
            lone.write([1])
            due = lone.due()
            lone.feed(now=due - 1, acked=lone.told("top"))
        self.assertEqual(lone.told("wait"), 60000)

    def test_only_what_is_timed_is_measured(self):
        lone = opened()
        lone.write(stuff(2800))
        lone.feed(now=199, acked=1400)
        self.assertEqual(lone.told("wait"), 200)
        lone.feed(now=200, acked=1401)
        self.assertEqual(lone.told("wait"), 200 // 8 + 200)
        lone.feed(now=400, acked=2801)
        self.assertEqual(lone.told("wait"), 200 // 8 + 200)

    def test_the_place_behind_what_is_sent_is_timed_the_end_too(self):
        lone = opened()
        lone.write([1, 2])
        lone.feed(now=10, acked=2)
        lone.feed(now=190, acked=3)
        self.assertEqual(lone.told("wait"), 190 // 8 + 190)
        lone = opened()
        lone.call("close", 0)
        lone.feed(now=190, acked=2)
        self.assertEqual(lone.told("wait"), 190 // 8 + 190)

    def test_what_is_sent_again_is_not_timed(self):
        lone = opened()
        lone.write([1])
        lone.tick(200)
        lone.feed(now=399, acked=2)
        self.assertEqual(lone.told("wait"), 400)

    def test_a_begin_said_again_is_not_timed(self):
        lone = Lone()
        lone.tick(1000)
        lone.become_open(now=1500)
        self.assertEqual(lone.told("wait"), 2000)

    def test_wide_grows_by_what_is_acked_1400_at_most(self):
        lone = opened()
        lone.write(stuff(5600))
        lone.feed(acked=101)
        self.assertEqual(lone.told("wide"), 5700)
        lone.feed(acked=2801)
        self.assertEqual(lone.told("wide"), 7100)

    def test_from_slow_on_wide_grows_slowly(self):
        lone = opened()
        lone.write(stuff(5600))
        for count in range(3):
            lone.feed()
        lone.feed(acked=5601)
        lone.write(stuff(2800))
        lone.feed(acked=7001)
        self.assertEqual(lone.told("wide"), 2800 + 1400 * 1400 // 2800)
        lone.feed(acked=8401)
        self.assertEqual(lone.told("wide"), 3500 + 1400 * 1400 // 3500)

    def test_wide_has_an_end(self):
        lone = opened()
        lone.side.sending.wide = 1048000
        lone.write(stuff(2800))
        lone.feed(acked=1401)
        self.assertEqual(lone.told("wide"), 1048576)
        lone.feed(acked=2801)
        self.assertEqual(lone.told("wide"), 1048576)

    def test_wide_grows_by_1_where_it_is_widest(self):
        lone = opened()
        lone.side.sending.wide = 1000000
        lone.side.sending.slow = 2800
        lone.write(stuff(1400))
        lone.feed(acked=1401)
        self.assertEqual(lone.told("wide"), 1000001)

    def test_ranges_above_what_is_acked_up_to_top_are_held(self):
        lone = opened()
        lone.write(stuff(5600))
        lone.feed(ranges=[(1, 50), (100, 200), (200, 300), (250, 260)])
        lone.feed(ranges=[(5500, 5601), (5590, 5602), (40, 30), (45, 45)])
        self.assertEqual(lone.side.sending.held, [(100, 300), (5500, 5601)])
        lone.feed(acked=101, ranges=[(90, 95), (301, 310), (101, 102)])
        self.assertEqual([span[1] for span in lone.side.sending.held], [300, 310, 5601])
        lone.feed(acked=310)
        self.assertEqual(lone.side.sending.held, [(5500, 5601)])

    def test_ranges_that_touch_are_one(self):
        lone = opened()
        lone.write(stuff(5600))
        lone.feed(ranges=[(100, 200), (300, 400)])
        lone.feed(ranges=[(50, 100), (350, 500), (290, 310)])
        self.assertEqual(lone.side.sending.held, [(50, 200), (290, 500)])
        lone.feed(ranges=[(200, 290), (30, 550), (60, 70)])
        self.assertEqual(lone.side.sending.held, [(30, 550)])

    def test_ranges_not_above_what_is_acked_or_below_0_are_not_held(self):
        lone = opened()
        lone.write(stuff(5600))
        lone.feed(acked=101, ranges=[(101, 150), (-5, 300), (200, -5), (2 ** 31, 2 ** 31 + 1)])
        self.assertEqual(lone.side.sending.held, [])

    def test_next_is_at_least_what_is_acked(self):
        lone = opened()
        lone.write(stuff(5600))
        lone.tick(200)
        self.assertEqual(lone.told("next"), 1401)
        self.assertEqual(lone.feed(acked=5601), [])
        self.assertEqual(lone.told("next"), 5601)
        self.assertEqual(places(lone.write([1])), [5601])

    def test_an_old_acks_ranges_must_be_above_first(self):
        lone = opened()
        lone.write(stuff(5600))
        lone.feed(acked=1401)
        lone.feed(acked=1, ranges=[(701, 1301), (1401, 1500), (1601, 1700)])
        self.assertEqual(lone.side.sending.held, [(1601, 1700)])


if __name__ == "__main__":
    unittest.main()

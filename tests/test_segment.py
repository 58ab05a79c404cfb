"""A segment's bytes, its sum, and which bytes are read as one."""

import unittest

from tests.helpers import ACKED, BEGIN, END, LEFT, RIGHT, RESET, Lone, checksum, encode, opened, sealed, stuff
from twosidesyard import calls
from twosidesyard.segment import Segment, read_segment, segment_bytes
from twosidesyard.side import Side, number_of, place_near


def bytes_of(flags=0, ranges=(), data=()):
    return encode((1024, 7), 1, 2, flags, 3, ranges, data, LEFT, RIGHT)


class Bytes(unittest.TestCase):
    def test_each_number_has_its_place(self):
        segment = Segment(0x0102, 0x0304, 0x05060708, 0x090A0B0C, 13, 0x0E0F, [(1, 0x10203040)], [7, 8])
        octets = segment_bytes(segment, LEFT, RIGHT)
        self.assertEqual(octets[:16], [1, 2, 3, 4, 5, 6, 7, 8, 9, 10, 11, 12, 13, 1, 14, 15])
        self.assertEqual(octets[18:], [0, 0, 0, 0, 0, 1, 0x10, 0x20, 0x30, 0x40, 7, 8])
        self.assertEqual(octets[16] * 256 + octets[17], checksum(octets, LEFT, RIGHT))

    def test_the_first_begin_byte_by_byte(self):
        side = Side()
        calls.open_side(side, LEFT, 1024, RIGHT, 7, 0, 0)
        # The addresses, 3, the length; the ports, the flags, the window; all else is 0.
        total = (2560 + 1) + (2560 + 2) + 3 + 20 + 1024 + 7 + 256 + 1024
        self.assertEqual(side.outbox, [
            [4, 0, 0, 7, 0, 0, 0, 0, 0, 0, 0, 0, 1, 0, 4, 0] + list((65535 - total).to_bytes(2, "big")) + [0, 0]
        ])

    def test_an_odd_byte_counts_as_the_high_one(self):
        for size in (1, 2, 3, 1399):
            segment = Segment(1024, 7, 1, 2, 4, 3, [], stuff(size))
            octets = segment_bytes(segment, LEFT, RIGHT)
            self.assertEqual(octets, bytes_of(flags=4, data=stuff(size)))

    def test_a_sum_of_0_stands_as_65535(self):
        plain = bytes_of(data=[0, 0])
        rest = checksum(plain, LEFT, RIGHT)
        octets = segment_bytes(Segment(1024, 7, 1, 2, 0, 3, [], list(rest.to_bytes(2, "big"))), LEFT, RIGHT)
        self.assertEqual(octets[16:18], [255, 255])
        self.assertIsNotNone(read_segment(octets, LEFT, RIGHT))
        octets[16:18] = [0, 0]
        self.assertIsNone(read_segment(octets, LEFT, RIGHT))

    def test_just_carried_out(self):
        value = checksum(bytes_of(data=[0, 0]), LEFT, RIGHT) + 1
        octets = segment_bytes(Segment(1024, 7, 1, 2, 0, 3, [], list(value.to_bytes(2, "big"))), LEFT, RIGHT)
        self.assertEqual(octets[16:18], [255, 254])

    def test_carried_out_often(self):
        greatest = Segment(65535, 65535, 2 ** 32 - 1, 2 ** 32 - 1, 15, 65535, [], [255] * 1400)
        octets = segment_bytes(greatest, LEFT, RIGHT)
        self.assertEqual(octets[16] * 256 + octets[17], checksum(octets, LEFT, RIGHT))


class Reading(unittest.TestCase):
    def test_what_was_said_is_read(self):
        for ranges in ([], [(1, 2)], [(1, 2), (3, 4), (5, 6), (2 ** 32 - 1, 8)]):
            for data in ([], [1], stuff(1400)):
                segment = read_segment(bytes_of(END + ACKED, ranges, data), LEFT, RIGHT)
                self.assertEqual((segment.from_port, segment.to_port), (1024, 7))
                self.assertEqual((segment.number, segment.acked), (1, 2))
                self.assertEqual((segment.flags, segment.window), (END + ACKED, 3))
                self.assertEqual((segment.ranges, segment.data), (ranges, data))

    def refused(self, octets):
        self.assertIsNone(read_segment(octets, LEFT, RIGHT))

    def test_too_short_or_too_long(self):
        self.refused([])
        self.refused(sealed(bytes_of()[:19], LEFT, RIGHT))
        self.refused(bytes_of(data=stuff(1401)))
        self.assertIsNotNone(read_segment(bytes_of(ranges=[(1, 2)] * 4, data=stuff(1400)), LEFT, RIGHT))
        self.refused(sealed(bytes_of(ranges=[(1, 2)])[:27], LEFT, RIGHT))

    def test_flags_and_ranges_that_are_none(self):
        self.assertIsNotNone(read_segment(bytes_of(15), LEFT, RIGHT))
        self.refused(bytes_of(16))
        self.refused(bytes_of(ranges=[(1, 2)] * 5))

    def test_the_two_bytes_that_are_0(self):
        for at in (18, 19):
            octets = bytes_of()
            octets[at] = 1
            self.refused(sealed(octets, LEFT, RIGHT))

    def test_any_one_byte_that_is_changed_is_noticed(self):
        octets = bytes_of(ACKED, [(1, 2)], [5, 6, 7])
        for at in range(len(octets)):
            for change in (1, 128, 255):
                other = list(octets)
                other[at] = (other[at] + change) % 256
                self.refused(other)

    def test_the_addresses_and_the_length_count(self):
        octets = bytes_of(data=[0, 0])
        self.assertIsNone(read_segment(octets, LEFT, RIGHT + 1))
        self.assertIsNone(read_segment(octets, LEFT + 1, RIGHT))
        self.refused(octets[:-1])
        self.refused(octets + [0])


class Places(unittest.TestCase):
    def test_numbers_go_round(self):
        self.assertEqual(number_of(2 ** 32 - 1, 0), 2 ** 32 - 1)
        self.assertEqual(number_of(2 ** 32 - 1, 1), 0)
        self.assertEqual(number_of(5, 2 ** 32), 5)

    def test_the_nearest_place(self):
        self.assertEqual(place_near(10, 15, 3), 5)
        self.assertEqual(place_near(2 ** 32 - 1, 4, 1), 5)
        self.assertEqual(place_near(0, 5, 2 ** 32), 2 ** 32 + 5)
        self.assertEqual(place_near(0, 2 ** 32 - 5, 2 ** 32), 2 ** 32 - 5)

    def test_how_near(self):
        near = 2 ** 33
        self.assertEqual(place_near(0, 2 ** 31 - 1, near), near + 2 ** 31 - 1)
        self.assertEqual(place_near(0, 2 ** 31, near), near - 2 ** 31)

    def test_none_below_0(self):
        self.assertEqual(place_near(10, 10, 3), 0)
        self.assertIsNone(place_near(10, 9, 3))
        self.assertIsNone(place_near(0, 2 ** 31 + 1, 1))


class Saying(unittest.TestCase):
    def test_the_begin_of_who_opens(self):
        begin = Lone(base=77).begin
        self.assertEqual((begin["from"], begin["to"], begin["number"], begin["acked"]), (1024, 7, 77, 0))
        self.assertEqual((begin["flags"], begin["window"], begin["ranges"], begin["data"]), (BEGIN, 1024, [], []))

    def test_an_ack(self):
        lone = Lone(base=77, other=99)
        acks = lone.become_open()
        self.assertEqual(len(acks), 1)
        self.assertEqual((acks[0]["number"], acks[0]["acked"], acks[0]["flags"]), (78, 100, ACKED))
        self.assertEqual((acks[0]["window"], acks[0]["ranges"], acks[0]["data"]), (1024, [], []))

    def test_the_window_by_64_and_cut(self):
        lone = opened()
        lone.feed(data=stuff(1))
        ack = lone.feed(place=2, data=stuff(62))[0]
        self.assertEqual((ack["wanted"], ack["window"]), (64, 1023))
        self.assertEqual(lone.told("edge"), 65537)

    def test_the_edge_moves_by_1400_at_least(self):
        lone = opened()
        lone.feed(data=stuff(1399))
        self.assertEqual(lone.call("read", 0, 1399)[1], [])
        ack = lone.tick(40)[0]
        self.assertEqual((lone.told("edge"), ack["window"]), (65537, (65537 - 1400) // 64))
        lone.feed(place=1400, data=[1])
        ack = lone.call("read", 40, 1)[1][0]
        self.assertEqual((lone.told("edge"), ack["window"]), (66937, 1024))

    def test_room_for_what_is_not_read_is_cut_to_64(self):
        lone = opened()
        lone.feed(data=stuff(1400))
        lone.feed(place=1401, data=stuff(1400))
        lone.call("read", 0, 2799)
        self.assertEqual(lone.told("edge"), 2801 + 64 * (65535 // 64))

    def test_the_first_four_pieces_are_told(self):
        lone = opened(base=2 ** 32 - 1, other=2 ** 32 - 5)
        for place in (30, 10, 50, 20, 40):
            said = lone.feed(place=place, data=[1, 2])
        pairs = [(place, place + 2) for place in (10, 20, 30, 40)]
        self.assertEqual(said[0]["ranges"], [(start - 5, stop - 5) for start, stop in pairs])
        self.assertEqual(lone.told("pieces"), 5)

    def test_a_reset(self):
        lone = opened()
        lone.write([1, 2])
        said = lone.call("reset", 0)[1]
        self.assertEqual([(one["flags"], one["place"], one["wanted"]) for one in said], [(RESET + ACKED, 3, 1)])


if __name__ == "__main__":
    unittest.main()

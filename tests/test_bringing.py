"""The calls about single segments on the link: sent, bring, damage, cut; and rush, that brings the rest."""

import unittest

from tests.helpers import (
    LEFT, RIGHT, TIME_END, ask, bring, checksum, close, cut, damage, encode, keep, last, meet, on_the_link, read,
    reset, rush, segments, sent, stuff, tick, told, told_of, write,
)

MOST = 2 ** 64 - 1
MET = (meet(0, 0, 0), rush(0))
# Segment 3 has 30 bytes of data: 50 bytes.
WRITTEN = (*MET, write(0, 0, stuff(30)))
THREE = (*MET, write(0, 0, stuff(4200)))
LINGERING = (*MET, close(0, 0), rush(0), close(1, 5), rush(7))


def have_come(*line):
    return [came for sender, came, octets in on_the_link(*line)]


class Sent(unittest.TestCase):
    def test_never_sent(self):
        self.assertEqual(last(sent(0)), [-2])
        for number in (1, 2, MOST):
            self.assertEqual(last(meet(0, 0, 0), sent(number)), [-2])

    def test_by_which_side_and_its_bytes_with_no_count_behind(self):
        begin = encode((1024, 7), 11, 0, 1, 1024, [], [], LEFT, RIGHT)
        answer = encode((7, 1024), 22, 12, 5, 1024, [], [], RIGHT, LEFT)
        self.assertEqual(last(meet(11, 22, 0), sent(0)), [0, 0, 0, 20] + begin)
        self.assertEqual(last(meet(11, 22, 0), bring(0, 0), sent(1)), [0, 1, 0, 20] + answer)
        data = encode((1024, 7), 12, 23, 4, 1024, [], [9, 8, 7], LEFT, RIGHT)
        self.assertEqual(last(meet(11, 22, 0), rush(0), write(0, 0, [9, 8, 7]), sent(3)), [0, 0, 0, 23] + data)

    def test_whether_it_ever_came(self):
        self.assertEqual(have_come(*WRITTEN), [1, 1, 1, 0])
        for call in (bring(3, 0), damage(3, 0, 0, 9), damage(3, 0, 99, 9), cut(3, 0, 0), cut(3, 0, 10), rush(0)):
            self.assertEqual(have_come(*WRITTEN, call)[3], 1, call)

    def test_what_was_refused_by_the_link_has_not_come(self):
        later = TIME_END + 1
        for call in (bring(3, later), damage(3, later, 0, 9), cut(3, later, 9), rush(later), bring(4, 0), sent(3)):
            self.assertEqual(have_come(*WRITTEN, call), [1, 1, 1, 0], call)

    def test_what_the_side_refused_has_come(self):
        self.assertEqual(have_come(meet(0, 0, 0), reset(1, 0), bring(0, 0)), [1])

    def test_what_is_on_the_link_stays_as_it_was(self):
        octets = last(*WRITTEN, sent(3))[4:]
        for call in (bring(3, 0), damage(3, 0, 0, 9), damage(3, 0, 49, 256), cut(3, 0, 0), cut(3, 0, 49)):
            self.assertEqual(last(*WRITTEN, call, sent(3))[4:], octets)
            self.assertEqual(last(*WRITTEN, call, bring(3, 0))[0], 0)

    def test_it_does_nothing_itself(self):
        self.assertEqual(ask(*WRITTEN, sent(3), sent(3))[3], last(*WRITTEN, sent(3), sent(3)))
        self.assertEqual(last(*WRITTEN, sent(3), told(1)), last(*WRITTEN, told(1)))


class Refusals(unittest.TestCase):
    def calls_of(self, number, now):
        return [bring(number, now), damage(number, now, 0, 9), damage(number, now, 99, 9), cut(number, now, 9)]

    def test_nothing_was_sent_under_that_number(self):
        for number in (4, 5, MOST):
            for call in self.calls_of(number, 0):
                self.assertEqual(last(*WRITTEN, call), [-2])

    def test_the_number_comes_ahead_of_the_time(self):
        for call in self.calls_of(4, TIME_END + 1) + self.calls_of(MOST, MOST):
            self.assertEqual(last(*WRITTEN, call), [-2])

    def test_a_time_that_may_not_be_stands_alone(self):
        for now in (TIME_END + 1, MOST):
            for call in self.calls_of(3, now):
                self.assertEqual(last(*WRITTEN, call), [-1])
                self.assertEqual(last(*WRITTEN, call, tick(1, 0)), [0, 4])
                self.assertEqual(last(*WRITTEN, reset(1, 0), call), [-1])

    def test_the_last_time_may_be(self):
        self.assertEqual(last(meet(0, 0, 0), bring(0, TIME_END)), [0, 2])
        self.assertEqual(last(*WRITTEN, damage(3, TIME_END, 50, 9)), [0, 4])
        self.assertEqual(last(*WRITTEN, cut(3, TIME_END, 50)), [0, 4])
        self.assertEqual(last(*WRITTEN, cut(3, TIME_END, 49)), [-3, 4])

    def test_a_side_that_is_over_has_the_count_behind_it(self):
        for call in self.calls_of(3, 0):
            self.assertEqual(last(*WRITTEN, reset(1, 0), call), [-4, 5])

    def test_the_phase_comes_ahead_of_what_is_no_segment(self):
        self.assertEqual(last(*WRITTEN, cut(3, 0, 0)), [-3, 4])
        self.assertEqual(last(*WRITTEN, reset(1, 0), cut(3, 0, 0)), [-4, 5])

    def test_time_goes_on_first(self):
        # Left's begin is due anew by then.
        begun = (meet(0, 0, 0), bring(0, 0))
        self.assertEqual(last(*begun, damage(1, 999, 0, 9)), [-3, 2])
        self.assertEqual(last(*begun, damage(1, 1000, 0, 9)), [-3, 3])
        self.assertEqual(last(*begun, cut(1, 1000, 5)), [-3, 3])
        self.assertEqual(last(*begun, bring(1, 1000)), [0, 4])
        self.assertEqual(last(*LINGERING, bring(5, 60006)), [0, 8])
        self.assertEqual(last(*LINGERING, bring(5, 60007)), [-4, 7])

    def test_what_was_sent_ahead_of_a_refusal_is_on_the_link(self):
        line = (meet(3, 4, 0), bring(0, 0), cut(1, 1000, 5))
        begin = encode((1024, 7), 3, 0, 1, 1024, [], [], LEFT, RIGHT)
        self.assertEqual(last(*line, sent(2)), [0, 0, 0, 20] + begin)

    def test_no_time_goes_on_with_a_refusal_of_the_link(self):
        line = (meet(0, 0, 0), bring(0, 0), bring(2, 10 ** 6), bring(1, TIME_END + 1), tick(0, 999))
        self.assertEqual(last(*line), [0, 2])


class Bring(unittest.TestCase):
    def test_one_by_one(self):
        line = (meet(0, 0, 0), bring(0, 0), bring(1, 0), bring(2, 0), write(0, 0, [7]), bring(3, 0), read(1, 0, 9))
        self.assertEqual(ask(*line)[1:], [[0, 2], [0, 3], [0, 3], [1, 4], [0, 4], [1, 7, 4]])

    def test_it_comes_to_the_other_side(self):
        line = (*MET, write(0, 0, [1]), write(1, 0, [2]), bring(3, 0), bring(4, 0))
        self.assertEqual(ask(*line, read(0, 0, 9), read(1, 0, 9))[-2:], [[1, 2, 5], [1, 1, 5]])

    def test_never(self):
        line = (*MET, write(0, 0, stuff(4200)), bring(3, 0), bring(5, 0), read(1, 0, 9999))
        self.assertEqual(last(*line)[:-1], [1400] + stuff(1400))

    def test_the_same_twice(self):
        line = (*WRITTEN, bring(3, 0), bring(3, 0), bring(3, 0), read(1, 0, 99), read(1, 0, 99))
        self.assertEqual(ask(*line)[3:], [[0, 4], [0, 5], [0, 6], [30] + stuff(30) + [6], [0, 6]])

    def test_a_begin_twice(self):
        self.assertEqual(ask(meet(0, 0, 0), bring(0, 0), bring(0, 0))[1:], [[0, 2], [0, 3]])
        self.assertEqual(segments(meet(0, 0, 0), bring(0, 0), bring(0, 0))[2]["flags"], 4)
        self.assertEqual(last(*MET, bring(0, 0), bring(3, 0), told(0))[-1], 4)

    def test_the_answer_to_a_begin_twice(self):
        self.assertEqual(ask(meet(0, 0, 0), bring(0, 0), bring(1, 0), bring(1, 0))[2:], [[0, 3], [0, 4]])
        self.assertEqual(last(*MET, bring(1, 0), bring(3, 0)), [0, 4])

    def test_the_last_first(self):
        line = (*THREE, bring(5, 0), bring(4, 0), read(1, 0, 9999), bring(3, 0), read(1, 0, 9999))
        given = ask(*line)[3:]
        self.assertEqual(given[:4], [[0, 7], [0, 8], [0, 8], [0, 9]])
        self.assertEqual(given[4][:-1], [4200] + stuff(4200))

    def test_an_ack_that_comes_late(self):
        # The first bytes open the right side, for they ack its begin too.
        line = (meet(0, 0, 0), bring(0, 0), bring(1, 0), write(0, 0, [5]), bring(3, 0), read(1, 0, 9), bring(2, 0))
        self.assertEqual(ask(*line)[4:], [[0, 4], [1, 5, 4], [0, 5]])

    def test_one_from_before_meeting_anew(self):
        line = (*WRITTEN, meet(5, 6, 0))
        for number in (1, 2, 3, 4):
            self.assertEqual(last(*line, bring(number, 0)), [-2])
            self.assertEqual(last(*line, sent(number)), [-2])
        begin = encode((1024, 7), 5, 0, 1, 1024, [], [], LEFT, RIGHT)
        self.assertEqual(last(*line, sent(0)), [0, 0, 0, 20] + begin)
        self.assertEqual(last(*line, bring(0, 0)), [0, 2])

    def test_nothing_from_before_meeting_anew_is_read(self):
        line = (*WRITTEN, *MET, bring(3, 0), write(0, 0, [1, 2]), bring(3, 0), read(1, 0, 99))
        self.assertEqual(ask(*line)[-4:], [[-2], [2, 4], [0, 4], [2, 1, 2, 4]])

    def test_time_never_goes_back(self):
        line = (*WRITTEN, tick(1, 500), bring(3, 100), tick(1, 539), tick(1, 540))
        self.assertEqual(ask(*line)[4:], [[0, 4], [0, 4], [0, 5]])

    def test_each_side_has_its_own_time(self):
        line = (*WRITTEN, bring(3, 199), tick(0, 198), tick(0, 199))
        self.assertEqual(ask(*line)[3:], [[0, 4], [0, 4], [0, 4]])
        self.assertEqual(last(*WRITTEN, bring(3, 10 ** 6), tick(0, 199)), [0, 4])


class Damage(unittest.TestCase):
    def setUp(self):
        self.octets = last(*WRITTEN, sent(3))[4:]
        self.assertEqual(len(self.octets), 50)

    def check_whole(self, call):
        self.assertEqual(ask(*WRITTEN, call, read(1, 0, 99))[3:], [[0, 4], [30] + stuff(30) + [4]], call)

    def check_refused(self, call):
        self.assertEqual(ask(*WRITTEN, call, read(1, 0, 99))[3:], [[-3, 4], [0, 4]], call)

    def test_the_sum_notices_it_at_each_place(self):
        for place, octet in enumerate(self.octets):
            for other in (octet + 1, octet ^ 128, 255 - octet, octet + 255):
                self.check_refused(damage(3, 0, place, other))

    def test_beyond_the_bytes_nothing_is_changed(self):
        for place in (50, 51, MOST):
            self.check_whole(damage(3, 0, place, 9))

    def test_the_byte_that_is_there_already(self):
        for place in range(50):
            self.check_whole(damage(3, 0, place, self.octets[place]))

    def test_the_byte_is_taken_modulo_256(self):
        for place in range(50):
            self.check_whole(damage(3, 0, place, self.octets[place] + 256))
            self.check_whole(damage(3, 0, place, self.octets[place] + MOST - 255))
        self.assertEqual((self.octets[0], self.octets[1]), (4, 0))
        self.check_refused(damage(3, 0, 0, 256))
        self.check_whole(damage(3, 0, 1, 256))
        self.check_refused(damage(3, 0, 1, MOST))

    def test_it_may_come_whole_later(self):
        line = (*WRITTEN, damage(3, 0, 30, 1), bring(3, 0), read(1, 0, 99))
        self.assertEqual(ask(*line)[3:], [[-3, 4], [0, 4], [30] + stuff(30) + [4]])

    def test_a_begin_and_its_answer(self):
        self.assertEqual(ask(meet(0, 0, 0), damage(0, 0, 12, 0), bring(0, 0))[1:], [[-3, 1], [0, 2]])
        self.assertEqual(last(meet(0, 0, 0), damage(0, 0, 12, 1)), [0, 2])
        self.assertEqual(last(meet(0, 0, 0), bring(0, 0), damage(1, 0, 4, 1)), [-3, 2])


class Cut(unittest.TestCase):
    def test_fewer_bytes_than_it_has(self):
        for n in range(50):
            self.assertEqual(ask(*WRITTEN, cut(3, 0, n), read(1, 0, 99))[3:], [[-3, 4], [0, 4]])

    def test_as_many_or_more(self):
        for n in (50, 51, MOST):
            self.assertEqual(ask(*WRITTEN, cut(3, 0, n), read(1, 0, 99))[3:], [[0, 4], [30] + stuff(30) + [4]])

    def test_fewer_than_a_segment_has(self):
        for n in (0, 1, 19):
            self.assertEqual(last(meet(0, 0, 0), cut(0, 0, n)), [-3, 1])
        self.assertEqual(last(meet(0, 0, 0), cut(0, 0, 20)), [0, 2])

    def test_it_is_the_first_bytes_that_come(self):
        # Two bytes less, and 65533 less for these: the sum of what's left is the same.
        line = (*MET, write(0, 0, [1, 2, 255, 253]))
        octets = last(*line, sent(3))[4:]
        self.assertEqual(checksum(octets[:22], LEFT, RIGHT), checksum(octets, LEFT, RIGHT))
        self.assertEqual(ask(*line, cut(3, 0, 22), read(1, 0, 9))[3:], [[0, 4], [2, 1, 2, 4]])
        line += (cut(3, 0, 22), bring(3, 0), read(1, 0, 9))
        self.assertEqual(last(*line), [4, 1, 2, 255, 253, 5])

    def test_it_may_come_whole_later(self):
        line = (*WRITTEN, cut(3, 0, 49), bring(3, 0), read(1, 0, 99))
        self.assertEqual(ask(*line)[3:], [[-3, 4], [0, 4], [30] + stuff(30) + [4]])


class Rush(unittest.TestCase):
    def test_what_is_sent_thereby_comes_too(self):
        self.assertEqual(ask(meet(3, 4, 0), rush(0), rush(0))[1:], [[3, 3], [0, 3]])

    def test_times_at_their_end(self):
        self.assertEqual(last(meet(0, 0, TIME_END), rush(TIME_END)), [3, 3])
        self.assertEqual(last(meet(0, 0, 0), rush(TIME_END + 1)), [-1])
        self.assertEqual(last(rush(MOST)), [-1])
        self.assertEqual(ask(meet(0, 0, 0), rush(MOST), rush(0))[1:], [[-1], [3, 3]])

    def test_what_comes_to_a_side_that_is_over_has_come(self):
        self.assertEqual(ask(meet(0, 0, 0), reset(1, 0), rush(0), rush(0))[2:], [[1, 1], [0, 1]])

    def test_1000_at_most_the_first_first(self):
        # Each keeping but the first asks once, for its time has come by then; each asking gets an ack.
        line = [*MET] + [keep(0, 2 * k, 1) for k in range(700)]
        self.assertEqual(ask(*line)[-1], [0, 702])
        self.assertEqual(ask(*line, rush(0), rush(0), rush(0))[-3:], [[1000, 1401], [398, 1401], [0, 1401]])

    def test_what_has_come_before_is_not_among_the_1000(self):
        line = [*MET] + [keep(0, 2 * k, 1) for k in range(700)]
        line += [bring(3 + k, 0) for k in range(0, 600, 2)] + [cut(5, 0, 9)]
        self.assertEqual(ask(*line)[-1], [-3, 1002])
        # Left are 399 askings, the 300 acks, and an ack for each of the 399.
        self.assertEqual(ask(*line, rush(0), rush(0))[-2:], [[1000, 1401], [98, 1401]])

    def test_what_has_come_before_does_not_come_again(self):
        self.assertEqual(ask(meet(0, 0, 0), bring(0, 0), rush(0))[2:], [[2, 3]])
        self.assertEqual(ask(meet(0, 0, 0), bring(0, 0), bring(1, 0), rush(0))[3:], [[1, 3]])
        line = (*THREE, damage(3, 0, 0, 9), bring(4, 0), cut(5, 0, 0), rush(0), rush(0))
        self.assertEqual(ask(*line)[3:], [[-3, 6], [0, 7], [-3, 7], [1, 7], [0, 7]])
        self.assertEqual(have_come(*line), [1] * 7)
        self.assertEqual(last(*line, read(1, 0, 9999)), [0, 7])

    def test_what_stands_behind_and_has_come_is_passed_over(self):
        line = (*THREE, bring(5, 0), rush(0), read(1, 0, 9999))
        given = ask(*line)
        self.assertEqual(given[3:5], [[0, 7], [5, 9]])
        self.assertEqual(given[5][:-1], [4200] + stuff(4200))

    def test_the_first_first(self):
        # In order, so no piece is told of in any ack.
        line = (*THREE, rush(0))
        self.assertEqual([one["ranges"] for one in segments(*line)], [[]] * last(*line)[1])
        self.assertEqual(told_of(1, "wanted unread pieces", *line), [4201, 4200, 0])

    def test_it_can_be_brought_again_by_itself(self):
        self.assertEqual(ask(*WRITTEN, rush(0), bring(3, 0), rush(0))[3:], [[1, 4], [0, 5], [1, 5]])

    def test_after_a_refused_rush_all_is_left(self):
        self.assertEqual(ask(*WRITTEN, rush(TIME_END + 1), rush(TIME_END))[3:], [[-1], [1, 4]])

    def test_all_of_a_long_stream_comes(self):
        line = (*MET, write(0, 0, stuff(15900)), close(0, 0), rush(0), read(1, 0, 20000), read(1, 0, 1))
        given = ask(*line)
        self.assertEqual(given[-2][:-1], [15900] + stuff(15900))
        self.assertEqual(given[-1][0], -6)


if __name__ == "__main__":
    unittest.main()

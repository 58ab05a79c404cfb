"""The link's calls, asked as lines of calls."""

import unittest

from tests.helpers import (
    LEFT, RIGHT, TIME_END, ask, bring, close, cut, damage, due, encode, keep, last, meet, on_the_link, read, reset,
    rush, sent, stuff, tick, told, told_of, write,
)
from twosidesyard.link import UnknownCall, answers

MOST = 2 ** 64 - 1
MET = (meet(0, 0, 0), rush(0))


class Interface(unittest.TestCase):
    def test_no_calls_no_answers(self):
        self.assertEqual(answers([]), [])

    def test_each_answer_has_its_length_ahead(self):
        line = meet(5, 6, 0) + write(0, 0, [9, 8, 7]) + rush(0) + read(1, 0, 10) + read(2, 0, 10)
        self.assertEqual(answers(line), [2, 0, 1, 2, 3, 1, 2, 4, 4, 5, 3, 9, 8, 7, 4, 1, -1])

    def test_what_is_handed_in_stays_and_nothing_is_kept(self):
        line = meet(1, 2, 3) + write(0, 4, stuff(3000)) + rush(5) + read(1, 6, 2000) + close(0, 7) + sent(3)
        line += damage(3, 7, 5, 1) + cut(3, 7, 30) + bring(3, 7) + told(0) + due(1) + rush(8) + reset(1, 9) + tick(0, 9)
        handed_in = list(line)
        given = answers(handed_in)
        self.assertEqual(handed_in, line)
        self.assertEqual(answers(handed_in), given)
        given.clear()
        self.assertEqual(answers(read(1, 6, 2000)), [2, -4, 0])

    def test_answers_are_whole_numbers(self):
        line = meet(1, 2, 3) + write(0, 4, [1]) + close(0, 4) + rush(5) + read(1, 6, 9) + keep(1, 7, 8) + told(1)
        given = answers(line + sent(0) + sent(1) + due(0) + bring(0, 8) + damage(0, 8, 0, 0) + cut(0, 8, 0))
        self.assertEqual({type(number) for number in given}, {int})
        self.assertIs(type(given), list)

    def test_a_number_that_is_no_call(self):
        for number in (0, 15, 2 ** 64 - 1):
            with self.assertRaises(UnknownCall):
                answers([number, 0, 0, 0])

    def test_many_calls(self):
        line = list(MET) + [tick(k % 2, k) for k in range(298)]
        self.assertEqual(ask(*line)[2:], [[0, 3]] * 298)


class BeforeMeet(unittest.TestCase):
    def test_both_are_in_phase_0(self):
        for side in (0, 1):
            self.assertEqual(last(write(side, 0, [1])), [-4, 0])
            self.assertEqual(last(read(side, 0, 5)), [-4, 0])
            self.assertEqual(last(close(side, 0)), [-4, 0])
            self.assertEqual(last(reset(side, 0)), [-4, 0])
            self.assertEqual(last(tick(side, 0)), [0, 0])
            self.assertEqual(last(keep(side, 0, 1)), [0, 0])
            self.assertEqual(last(due(side)), [0, 0])
            self.assertEqual(last(told(side)), [0, 0, 0, 0, 0, 0, 0, 0, 0, 5600, 1048576, 1000, 0, 0, 0, 0, 0, 0])
        self.assertEqual(last(rush(0)), [0, 0])

    def test_nothing_was_sent(self):
        for call in (sent(0), bring(0, 0), damage(0, 0, 0, 0), cut(0, 0, 0)):
            self.assertEqual(last(call), [-2])


class Refusals(unittest.TestCase):
    def calls_of(self, side, now):
        return [
            write(side, now, [1]), read(side, now, 1), close(side, now),
            reset(side, now), tick(side, now), keep(side, now, 1),
        ]

    def test_a_side_that_is_neither_stands_alone(self):
        for side in (2, 3, MOST):
            for call in self.calls_of(side, 0) + [due(side), told(side)]:
                self.assertEqual(last(*MET, call), [-1])
                self.assertEqual(last(call), [-1])

    def test_the_side_comes_ahead_of_the_time(self):
        for call in self.calls_of(2, TIME_END + 1) + [keep(2, 0, 2 ** 31 + 1)]:
            self.assertEqual(last(*MET, call), [-1])

    def test_a_time_that_may_not_be_has_the_count_behind_it(self):
        for side in (0, 1):
            for now in (TIME_END + 1, MOST):
                for call in self.calls_of(side, now):
                    self.assertEqual(last(*MET, call), [-1, 3])

    def test_the_time_comes_ahead_of_the_phase(self):
        for call in self.calls_of(0, TIME_END + 1):
            self.assertEqual(last(call), [-1, 0])
            self.assertEqual(last(meet(0, 0, 0), reset(0, 0), call), [-1, 1])

    def test_the_last_time_may_be(self):
        for call in self.calls_of(1, TIME_END):
            self.assertGreaterEqual(last(*MET, call)[0], 0)

    def test_no_time_goes_on_with_an_argument_that_may_not_be(self):
        line = (meet(0, 0, 0), tick(0, TIME_END + 1), keep(0, 5000, 2 ** 31 + 1), tick(0, 999))
        self.assertEqual(ask(*line)[1:], [[-1, 1], [-1, 1], [0, 1]])

    def test_time_goes_on_where_another_refusal_follows(self):
        line = (*MET, write(0, 0, [1]), close(0, 0), write(0, 200, [2]))
        self.assertEqual(ask(*line)[2:], [[1, 4], [0, 5], [-6, 6]])
        line = (*MET, write(0, 0, [1]), close(0, 0), close(0, 199), close(0, 200))
        self.assertEqual(ask(*line)[4:], [[-6, 5], [-6, 6]])


class Meet(unittest.TestCase):
    def test_it_answers_0_and_one_begin_was_sent(self):
        self.assertEqual(ask(meet(7, 9, 0)), [[0, 1]])

    def test_left_has_begun_and_right_waits(self):
        self.assertEqual(last(meet(7, 9, 0), read(0, 0, 5)), [0, 1])
        self.assertEqual(last(meet(7, 9, 0), read(1, 0, 5)), [-4, 1])
        self.assertEqual(last(meet(7, 9, 0), write(1, 0, [1])), [-4, 1])

    def test_addresses_and_ports(self):
        begin = encode((1024, 7), 11, 0, 1, 1024, [], [], LEFT, RIGHT)
        answer = encode((7, 1024), 22, 12, 5, 1024, [], [], RIGHT, LEFT)
        ack = encode((1024, 7), 12, 23, 4, 1024, [], [], LEFT, RIGHT)
        self.assertEqual(on_the_link(meet(11, 22, 0), rush(0)), [(0, 1, begin), (1, 1, answer), (0, 1, ack)])

    def test_bases_and_times_at_their_ends(self):
        top = 2 ** 32 - 1
        self.assertEqual(ask(meet(top, top, TIME_END)), [[0, 1]])
        for call in (meet(2 ** 32, 0, 0), meet(0, 2 ** 32, 0), meet(0, 0, TIME_END + 1), meet(MOST, MOST, MOST)):
            self.assertEqual(ask(call), [[-1]])

    def test_a_stream_across_the_greatest_number(self):
        top = 2 ** 32 - 1
        data = stuff(4000)
        line = (meet(top, top - 1, 0), write(0, 0, data), rush(0), tick(1, 40), rush(40), read(1, 40, 5000))
        self.assertEqual(last(*line)[:4001], [4000] + data)
        line = (meet(top, top - 1, 0), rush(0), write(1, 0, data), rush(0), tick(0, 40), rush(40), read(0, 40, 5000))
        self.assertEqual(last(*line)[:4001], [4000] + data)

    def test_a_refused_meeting_changes_nothing(self):
        self.assertEqual(last(*MET, meet(2 ** 32, 0, 0), tick(0, 0)), [0, 3])
        self.assertEqual(last(*MET, meet(2 ** 32, 0, 0), write(0, 0, [1])), [1, 4])

    def test_meeting_anew_makes_all_new(self):
        line = (*MET, write(0, 0, [1, 2]), close(0, 0), rush(0), meet(0, 0, 0))
        self.assertEqual(last(*line), [0, 1])
        self.assertEqual(last(*line, read(1, 0, 5)), [-4, 1])
        self.assertEqual(last(*line, write(0, 0, [3])), [1, 1])
        self.assertEqual(last(*line, rush(0)), [3, 3])
        self.assertEqual(last(*line, write(0, 0, [3]), rush(0), read(1, 0, 5)), [1, 3, 4])

    def test_meeting_anew_forgets_what_had_not_come(self):
        self.assertEqual(ask(meet(0, 0, 0), meet(0, 0, 0), rush(0))[1:], [[0, 1], [3, 3]])

    def test_meeting_anew_begins_time_anew(self):
        line = (tick(0, 10 ** 6), tick(1, 10 ** 6), meet(0, 0, 0), tick(0, 999), tick(0, 1000))
        self.assertEqual(ask(*line)[2:], [[0, 1], [0, 1], [0, 2]])
        line = (*MET, tick(0, 10 ** 6), meet(0, 0, 5), tick(0, 1004), tick(0, 1005))
        self.assertEqual(ask(*line)[4:], [[0, 1], [0, 2]])

    def test_meeting_anew_keeps_nothing_up(self):
        line = (meet(0, 0, 0), keep(0, 0, 5), meet(0, 0, 0), rush(0), tick(0, 10 ** 5))
        self.assertEqual(last(*line), [0, 3])


class Write(unittest.TestCase):
    def test_what_is_written_once_open_is_sent_at_once(self):
        self.assertEqual(last(*MET, write(0, 0, [1, 2, 3])), [3, 4])
        self.assertEqual(last(*MET, write(1, 0, [1, 2, 3])), [3, 4])
        self.assertEqual(last(*MET, write(0, 0, [])), [0, 3])

    def test_in_phase_2_it_is_taken_and_sent_later(self):
        line = (meet(0, 0, 0), write(0, 0, [5, 6]), rush(0), read(1, 0, 9))
        self.assertEqual(ask(*line)[1:], [[2, 1], [4, 4], [2, 5, 6, 4]])

    def test_more_than_there_is_room_for(self):
        line = (meet(0, 0, 0), write(0, 0, stuff(65530)), write(0, 0, stuff(10)), write(0, 0, [1]))
        self.assertEqual(ask(*line)[1:], [[65530, 1], [6, 1], [0, 1]])
        self.assertEqual(last(*MET, write(0, 0, stuff(131072))), [65536, 7])

    def test_room_comes_back_with_what_is_acked(self):
        line = (*MET, write(0, 0, stuff(65536)), rush(0), write(0, 0, stuff(65536)))
        self.assertGreater(last(*line)[0], 5600)

    def test_5600_bytes_are_on_their_way_at_first(self):
        self.assertEqual(last(*MET, write(0, 0, stuff(15000))), [15000, 7])

    def test_few_bytes_wait_for_an_ack(self):
        line = (*MET, write(0, 0, [1]), write(0, 0, [2]), rush(0), tick(1, 40), rush(40), read(1, 40, 9))
        self.assertEqual(ask(*line)[2:], [[1, 4], [1, 4], [1, 4], [0, 5], [2, 6], [2, 1, 2, 6]])

    def test_after_closing_and_when_over(self):
        self.assertEqual(last(*MET, close(0, 0), write(0, 0, [1])), [-6, 4])
        self.assertEqual(last(*MET, reset(0, 0), write(0, 0, [1])), [-6, 4])
        self.assertEqual(last(meet(0, 0, 0), reset(1, 0), write(1, 0, [1])), [-6, 1])

    def test_while_it_lingers(self):
        line = (*MET, close(0, 0), rush(0), close(1, 0), rush(0), write(0, 0, [1]))
        self.assertEqual(last(*line)[0], -6)


class Read(unittest.TestCase):
    def test_nothing_yet(self):
        self.assertEqual(last(*MET, read(0, 0, 5)), [0, 3])
        self.assertEqual(last(*MET, read(1, 0, 5)), [0, 3])

    def test_most_at_most_in_order_and_nothing_twice(self):
        line = (*MET, write(0, 0, [9, 8, 7]), rush(0))
        line += (read(1, 0, 0), read(1, 0, 2), read(1, 0, MOST), read(1, 0, 1))
        self.assertEqual(ask(*line)[4:], [[0, 4], [2, 9, 8, 4], [1, 7, 4], [0, 4]])

    def test_an_ack_once_1400_more_may_come(self):
        line = (*MET, write(0, 0, stuff(1400)), rush(0))
        self.assertEqual(last(*line, read(1, 0, 1399)), [1399] + stuff(1399) + [4])
        self.assertEqual(last(*line, read(1, 0, 1399), read(1, 0, 1)), [1] + stuff(1400)[1399:] + [5])
        self.assertEqual(last(*line, read(1, 0, 1400)), [1400] + stuff(1400) + [5])

    def test_no_such_ack_once_the_end_has_come(self):
        line = (*MET, write(0, 0, stuff(1400)), rush(0), close(0, 0), rush(0), read(1, 0, 1400))
        self.assertEqual(last(*line)[-1], 6)

    def test_the_end(self):
        line = (*MET, write(0, 0, [4]), close(0, 0), rush(0), read(1, 0, 0), read(1, 0, 9), read(1, 0, 9))
        self.assertEqual(ask(*line)[5:], [[0, 6], [1, 4, 6], [-6, 6]])

    def test_what_has_come_can_be_read_when_it_is_over(self):
        line = (*MET, write(0, 0, [4]), rush(0), reset(0, 0), rush(0))
        self.assertEqual(ask(*line, read(1, 0, 9), read(1, 0, 9))[6:], [[1, 4, 5], [-6, 5]])

    def test_over_with_nothing_to_be_read(self):
        self.assertEqual(last(*MET, reset(0, 0), read(0, 0, 5)), [-6, 4])


class Close(unittest.TestCase):
    def test_the_end_is_sent(self):
        self.assertEqual(last(*MET, close(0, 0)), [0, 4])

    def test_the_end_goes_with_bytes_that_were_held_back(self):
        line = (*MET, write(0, 0, [1]), write(0, 0, [2]), close(0, 0), rush(0), read(1, 0, 9), read(1, 0, 9))
        self.assertEqual(ask(*line)[2:], [[1, 4], [1, 4], [0, 5], [3, 6], [2, 1, 2, 6], [-6, 6]])

    def test_twice(self):
        for side in (0, 1):
            self.assertEqual(last(*MET, close(side, 0), close(side, 0)), [-6, 4])

    def test_in_each_phase(self):
        self.assertEqual(last(meet(0, 0, 0), close(1, 0)), [-4, 1])
        self.assertEqual(last(meet(0, 0, 0), close(0, 0)), [0, 1])
        self.assertEqual(ask(meet(0, 0, 0), close(0, 0), rush(0), read(1, 0, 5))[2:], [[5, 5], [-6, 5]])
        self.assertEqual(last(*MET, reset(0, 0), close(0, 0)), [-6, 4])

    def test_who_closed_first_lingers_and_the_other_is_over(self):
        line = (*MET, close(0, 0), rush(0), close(1, 0), rush(0))
        self.assertEqual(ask(*line)[2:], [[0, 4], [2, 5], [0, 6], [2, 7]])
        self.assertEqual(last(*line, reset(0, 0)), [-4, 7])
        self.assertEqual(last(*line, reset(1, 0)), [-4, 7])
        self.assertEqual(last(*line, tick(0, 60000), close(0, 60000)), [-6, 7])

    def test_both_close_at_once(self):
        line = (*MET, close(0, 0), close(1, 0), rush(0))
        self.assertEqual(ask(*line)[2:], [[0, 4], [0, 5], [4, 7]])
        self.assertEqual(last(*line, reset(0, 59999)), [-4, 7])


class Reset(unittest.TestCase):
    def test_it_ends_both(self):
        line = (*MET, reset(0, 0), rush(0), read(1, 0, 1), write(1, 0, [1]))
        self.assertEqual(ask(*line)[2:], [[0, 4], [1, 4], [-6, 4], [-6, 4]])
        self.assertEqual(last(*MET, reset(0, 0), reset(0, 0)), [-4, 4])

    def test_nothing_is_sent_ahead_of_phase_3(self):
        self.assertEqual(ask(meet(0, 0, 0), reset(0, 0), reset(1, 0))[1:], [[0, 1], [0, 1]])

    def test_nothing_is_due_once_over(self):
        line = (*MET, write(0, 0, [1]), reset(0, 0), tick(0, 10 ** 6))
        self.assertEqual(last(*line), [0, 5])
        self.assertEqual(last(*MET, write(1, 0, [1]), rush(0), reset(0, 0), tick(0, 40)), [0, 5])


class Tick(unittest.TestCase):
    def test_a_begin_is_said_again_until_it_is_over(self):
        line = [meet(0, 0, 0)]
        for count, at in enumerate((1000, 3000, 7000, 15000, 31000), start=1):
            self.assertEqual(last(*line, tick(0, at - 1)), [0, count])
            line.append(tick(0, at))
            self.assertEqual(last(*line), [0, count + 1])
        self.assertEqual(last(*line, tick(0, 62999), write(0, 62999, [1])), [1, 6])
        self.assertEqual(last(*line, tick(0, 63000)), [0, 6])
        self.assertEqual(last(*line, write(0, 63000, [1])), [-6, 6])
        self.assertEqual(last(*line, read(0, 63000, 1)), [-6, 6])
        self.assertEqual(last(*line, tick(0, 63000), tick(0, 10 ** 9)), [0, 6])

    def test_the_answer_to_a_begin_is_said_again_too(self):
        line = (meet(0, 0, 0), rush(0), reset(0, 0), tick(1, 0))
        self.assertEqual(last(*line), [0, 4])
        line = (meet(0, 0, 0), reset(0, 0), rush(0), tick(1, 999), tick(1, 1000))
        self.assertEqual(ask(*line)[2:], [[2, 2], [0, 2], [0, 3]])

    def test_time_never_goes_back(self):
        line = (meet(0, 0, 0), tick(0, 1000), tick(0, 0), tick(0, 2999), tick(0, 3000))
        self.assertEqual(ask(*line)[1:], [[0, 2], [0, 2], [0, 2], [0, 3]])

    def test_an_earlier_time_counts_as_the_latest(self):
        line = (*MET, tick(0, 1000), write(0, 0, [1]), tick(0, 1199), tick(0, 1200))
        self.assertEqual(ask(*line)[3:], [[1, 4], [0, 4], [0, 5]])

    def test_once_a_call_however_much_time_went_on(self):
        line = (meet(0, 0, 0), tick(0, 10 ** 6), tick(0, 10 ** 6 + 1999), tick(0, 10 ** 6 + 2000))
        self.assertEqual(ask(*line)[1:], [[0, 2], [0, 2], [0, 3]])

    def test_each_side_has_its_own_time(self):
        self.assertEqual(ask(meet(0, 0, 0), tick(1, 10 ** 6), tick(0, 999))[1:], [[0, 1], [0, 1]])

    def test_an_ack_is_said_after_40(self):
        line = (*MET, write(0, 0, [1]), rush(0))
        self.assertEqual(ask(*line, tick(1, 39), tick(1, 40), tick(1, 80))[4:], [[0, 4], [0, 5], [0, 5]])

    def test_what_is_not_acked_is_sent_again(self):
        line = (*MET, write(0, 0, [1]), tick(0, 199), tick(0, 200), tick(0, 599), tick(0, 600))
        self.assertEqual(ask(*line)[3:], [[0, 4], [0, 5], [0, 5], [0, 6]])

    def test_after_8_tries_it_is_over(self):
        line = [*MET, write(0, 0, [1])]
        at = 0
        for wait in (200, 400, 800, 1600, 3200, 6400, 12800, 25600, 51200):
            at += wait
            line.append(tick(0, at))
        self.assertEqual([answer[1] for answer in ask(*line)[2:]], [4, 5, 6, 7, 8, 9, 10, 11, 12, 12])
        self.assertEqual(last(*line[:-1], write(0, at - 1, [2])), [1, 12])
        self.assertEqual(last(*line, write(0, at, [2])), [-6, 12])

    def test_at_the_last_time(self):
        self.assertEqual(last(meet(0, 0, TIME_END), tick(0, TIME_END)), [0, 1])


class Keep(unittest.TestCase):
    def test_the_greatest_time(self):
        self.assertEqual(last(*MET, keep(0, 0, 2 ** 31)), [0, 3])
        self.assertEqual(last(*MET, keep(0, 0, 2 ** 31 + 1)), [-1, 3])
        self.assertEqual(last(*MET, keep(0, 0, MOST)), [-1, 3])
        line = (*MET, keep(0, 0, 2 ** 31), tick(0, 2 ** 31 - 1), tick(0, 2 ** 31))
        self.assertEqual(ask(*line)[3:], [[0, 3], [0, 4]])

    def test_it_asks_and_is_over_after_5_askings(self):
        line = [*MET, keep(0, 7, 500)]
        for count in range(5):
            at = 507 + 10000 * count
            self.assertEqual(last(*line, tick(0, at - 1)), [0, 3 + count])
            line.append(tick(0, at))
            self.assertEqual(last(*line), [0, 4 + count])
        self.assertEqual(last(*line, write(0, 50506, [1])), [1, 9])
        self.assertEqual(last(*line, write(0, 50507, [1])), [-6, 8])

    def test_an_answer_begins_it_anew(self):
        line = (*MET, keep(0, 0, 500), tick(0, 500), rush(600), tick(0, 1099), tick(0, 1100))
        self.assertEqual(ask(*line)[3:], [[0, 4], [2, 5], [0, 5], [0, 6]])

    def test_0_is_not_kept_up(self):
        self.assertEqual(last(*MET, keep(0, 0, 5), keep(0, 1, 0), tick(0, 10 ** 6)), [0, 3])

    def test_keeping_counts_as_heard(self):
        line = (*MET, keep(0, 0, 500), tick(0, 500), keep(0, 600, 500), tick(0, 1099), tick(0, 1100))
        self.assertEqual(ask(*line)[3:], [[0, 4], [0, 4], [0, 4], [0, 5]])

    def test_only_in_phase_4_with_all_acked(self):
        self.assertEqual(last(meet(0, 0, 0), keep(0, 0, 5), tick(0, 999)), [0, 1])
        self.assertEqual(last(*MET, keep(0, 0, 5), write(0, 0, [1]), tick(0, 199)), [0, 4])


class Due(unittest.TestCase):
    LINGERING = (*MET, close(0, 0), rush(0), close(1, 5), rush(7))

    def test_nothing_is_due(self):
        for line in ((), (meet(0, 0, 0),), MET, (*MET, reset(1, 0)), (*MET, keep(1, 5, 0)), (*MET, tick(1, 10 ** 6))):
            self.assertEqual(last(*line, due(1))[0], 0)
            self.assertEqual(len(last(*line, due(1))), 2)
        self.assertEqual(last(*MET, due(0)), [0, 3])

    def test_a_begin_and_its_answer(self):
        self.assertEqual(last(meet(0, 0, 7), due(0)), [1, 1007, 1])
        self.assertEqual(last(meet(0, 0, 7), bring(0, 30), due(1)), [1, 1030, 2])
        self.assertEqual(last(meet(0, 0, 7), bring(0, 30), bring(1, 31), due(0)), [0, 3])
        self.assertEqual(last(meet(0, 0, 7), tick(0, 1007), due(0)), [1, 3007, 2])

    def test_lingering(self):
        self.assertEqual(told_of(0, "phase why", *self.LINGERING), [5, 0])
        self.assertEqual(last(*self.LINGERING, due(0)), [1, 60007, 7])
        self.assertEqual(last(*self.LINGERING, due(1)), [0, 7])
        self.assertEqual(last(*self.LINGERING, keep(0, 7, 10), due(0)), [1, 60007, 7])
        self.assertEqual(last(*self.LINGERING, tick(0, 60007), due(0)), [0, 7])

    def test_lingering_begins_anew_with_what_does_not_fit(self):
        self.assertEqual(ask(*self.LINGERING, bring(5, 100), due(0))[-2:], [[0, 8], [1, 60100, 8]])

    def test_an_ack_is_the_earliest(self):
        line = (*MET, keep(0, 0, 500), write(1, 0, [1]), bring(3, 100), due(0))
        self.assertEqual(last(*line), [1, 140, 4])
        line = (*MET, write(0, 0, [1]), write(1, 0, [1]), bring(4, 159), due(0))
        self.assertEqual(last(*line), [1, 199, 5])
        self.assertEqual(last(*line, tick(0, 199), due(0)), [1, 200, 6])

    def test_what_is_due_is_the_earliest(self):
        self.assertEqual(last(*MET, write(0, 50, [1]), due(0)), [1, 250, 4])
        self.assertEqual(last(*MET, write(0, 0, [1]), write(1, 0, [1]), bring(4, 161), due(0)), [1, 200, 5])
        self.assertEqual(last(*MET, keep(0, 0, 100), write(0, 50, [1]), due(0)), [1, 250, 4])

    def test_an_asking_is_the_earliest(self):
        line = (*MET, keep(0, 0, 39), write(1, 0, [1]), bring(3, 20), due(0))
        self.assertEqual(last(*line), [1, 59, 4])
        self.assertEqual(last(*MET, keep(0, 5, 500), due(0)), [1, 505, 3])
        self.assertEqual(last(*MET, keep(0, 5, 500), tick(0, 505), due(0)), [1, 10505, 4])

    def test_a_time_that_has_gone_by(self):
        self.assertEqual(last(*MET, keep(0, 0, 1), tick(0, 10 ** 6), due(0)), [1, 10001, 4])
        self.assertEqual(last(meet(0, 0, TIME_END), due(0)), [1, TIME_END + 1000, 1])

    def test_it_does_nothing_itself(self):
        line = (*MET, write(0, 0, [1]))
        self.assertEqual(ask(*line, due(0), due(0), told(0))[3:5], [[1, 200, 4]] * 2)
        self.assertEqual(ask(*line, due(0), tick(0, 200))[4:], ask(*line, tick(0, 200))[3:])

    def test_each_side_has_its_own(self):
        self.assertEqual(ask(*MET, write(0, 0, [1]), bring(3, 9), due(0), due(1))[-2:], [[1, 200, 4], [1, 49, 4]])


class Told(unittest.TestCase):
    def test_both_sides_as_they_meet(self):
        line = (meet(7, 9, 0),)
        left = [0, 2, 0, 0, 0, 0, 1, 1, 0, 5600, 1048576, 1000, 0, 0, 0, 0, 0]
        right = [0, 1, 0, 0, 0, 0, 0, 0, 0, 5600, 1048576, 1000, 0, 0, 0, 0, 0]
        self.assertEqual(ask(*line, told(0), told(1))[1:], [left + [1], right + [1]])
        right = [0, 3, 0, 0, 0, 0, 1, 1, 65537, 5600, 1048576, 1000, 1, 0, 65537, 0, 0]
        self.assertEqual(ask(*line, bring(0, 0), told(0), told(1))[2:], [left + [2], right + [2]])
        left = [0, 4, 0, 0, 0, 1, 1, 1, 65537, 5600, 1048576, 200, 1, 0, 65537, 0, 0]
        right = [0, 4, 0, 0, 0, 1, 1, 1, 65537, 5601, 1048576, 200, 1, 0, 65537, 0, 0]
        self.assertEqual(ask(*line, rush(0), told(0), told(1))[2:], [left + [3], right + [3]])

    def test_while_bytes_are_on_their_way(self):
        line = (*MET, write(0, 0, stuff(10000)), bring(3, 0), bring(5, 0))
        left = [0, 4, 0, 10000, 10000, 1, 5601, 5601, 65537, 5600, 1048576, 200, 1, 0, 65537, 0, 0]
        right = [0, 4, 0, 0, 0, 1, 1, 1, 65537, 5601, 1048576, 200, 1401, 1400, 65537, 1, 0]
        self.assertEqual(ask(*line, told(0), told(1))[5:], [left + [8], right + [8]])
        line += (rush(0),)
        self.assertEqual(told_of(0, "unacked first next top wide", *line), [200, 9801, 10001, 10001, 11200])
        self.assertEqual(told_of(1, "wanted unread edge pieces", *line), [10001, 10000, 65537, 0])
        self.assertEqual(told_of(1, "wanted unread edge", *line, read(1, 0, 9000)), [10001, 1000, 74513])

    def test_why_it_is_over(self):
        over = (*MET, close(0, 0), rush(0), close(1, 0), rush(0))
        self.assertEqual(told_of(1, "phase why ended", *over), [6, 1, 1])
        self.assertEqual(told_of(0, "phase why ended", *over, tick(0, 60000)), [6, 1, 1])
        self.assertEqual(told_of(1, "phase why ended", *MET, reset(0, 0), rush(0)), [6, 2, 0])
        self.assertEqual(told_of(0, "phase why ended", *MET, reset(0, 0), rush(0)), [6, 4, 0])
        tries = [tick(0, at) for at in (1000, 3000, 7000, 15000, 31000, 63000)]
        self.assertEqual(told_of(0, "phase why wait", meet(0, 0, 0), *tries[:5]), [2, 0, 32000])
        self.assertEqual(told_of(0, "phase why wait", meet(0, 0, 0), *tries), [6, 3, 32000])

    def test_the_other_end_has_come(self):
        line = (*MET, write(0, 0, [1]), close(0, 0))
        self.assertEqual(told_of(1, "wanted ended", *line, bring(4, 0)), [1, 0])
        self.assertEqual(told_of(1, "wanted ended", *line, bring(3, 0)), [2, 0])
        self.assertEqual(told_of(1, "wanted ended", *line, bring(4, 0), bring(3, 0)), [3, 1])

    def test_it_does_nothing_itself(self):
        line = (*MET, write(0, 0, [1]), tick(0, 10 ** 6))
        self.assertEqual(ask(*line, told(0), told(0))[4], ask(*line, told(0), told(0))[5])
        self.assertEqual(last(*line, told(0), tick(0, 10 ** 6)), last(*line, tick(0, 10 ** 6)))


if __name__ == "__main__":
    unittest.main()

"""Lines of calls in which segments are lost, doubled, delayed and disordered."""

import unittest

from tests.helpers import (
    ACKED, END, ask, bring, close, cut, damage, due, last, meet, read, reset, rush, segments, stuff, tick, told_of,
    write,
)

MET = (meet(1000, 5000, 0), rush(0))
# Segments 3 to 6 are on their way, 1400 bytes wait; 3 is lost, the acks 7 to 9 tell of the others.
LOST = (*MET, write(0, 0, stuff(7000)), bring(4, 0), bring(5, 0), bring(6, 0))
# Of 3 to 6 every second one is lost; 7 and 8 tell of the others.
GAPS = (*MET, write(0, 0, stuff(5600)), bring(4, 0), bring(6, 0))
CLOSING = "phase why ended"


def brief(segment):
    """Whose it is, its place, how many bytes it has, its flags."""
    base = (1000, 5000)[segment["sender"]]
    return segment["sender"], segment["number"] - base, len(segment["data"]), segment["flags"]


def from_number(number, *line):
    return [brief(segment) for segment in segments(*line)[number:]]


class NothingNew(unittest.TestCase):
    def test_the_acks_tell_what_came(self):
        self.assertEqual([one["acked"] for one in segments(*LOST)[7:]], [1001] * 3)
        ranges = [one["ranges"] for one in segments(*LOST)[7:]]
        self.assertEqual(ranges, [[(2401, 3801)], [(2401, 5201)], [(2401, 6601)]])

    def test_the_third_one_sends_the_first_place_anew(self):
        line = (*LOST, bring(7, 1), bring(8, 1))
        self.assertEqual(last(*line), [0, 10])
        self.assertEqual(told_of(0, "wide slow", *line), [5600, 1048576])
        line += (bring(9, 1),)
        self.assertEqual(last(*line), [0, 12])
        self.assertEqual(from_number(10, *line), [(0, 1, 1400, ACKED), (0, 5601, 1400, ACKED)])
        self.assertEqual(told_of(0, "first next top wide slow", *line), [1, 7001, 7001, 7000, 2800])

    def test_the_same_ack_three_times(self):
        line = (*LOST, bring(9, 1), bring(9, 1), bring(9, 1))
        self.assertEqual([answer[1] for answer in ask(*line)[6:]], [10, 10, 12])
        self.assertEqual(from_number(10, *line)[0], (0, 1, 1400, ACKED))

    def test_mended_once_all_that_was_on_its_way_is_acked(self):
        line = (*LOST, bring(7, 1), bring(8, 1), bring(9, 1), bring(10, 2))
        self.assertEqual(segments(*line)[12]["acked"], 6601)
        line += (bring(12, 3),)
        self.assertEqual(told_of(0, "first wide slow", *line), [5601, 2800, 2800])
        line += (bring(11, 3), read(1, 3, 9999))
        self.assertEqual(last(*line)[:-1], [7000] + stuff(7000))

    def test_an_old_ack_says_nothing_and_does_not_count(self):
        line = (*MET, write(0, 0, stuff(7000)), bring(3, 0), bring(4, 0), bring(5, 0), bring(6, 0))
        self.assertEqual([one["acked"] for one in segments(*line)[7:]], [3801, 6601])
        line += (bring(8, 1), bring(7, 1), bring(7, 1), bring(7, 1))
        self.assertEqual(told_of(0, "first wide slow", *line), [5601, 7000, 1048576])
        self.assertEqual([answer[1] for answer in ask(*line)[7:]], [10, 10, 10, 10])

    def test_two_and_one_that_says_something_new(self):
        line = (*LOST, bring(7, 1), bring(8, 1), bring(3, 1), bring(10, 1), bring(9, 1), bring(9, 1))
        self.assertEqual(told_of(0, "first slow", *line), [5601, 1048576])


class Gaps(unittest.TestCase):
    def test_several_ranges_are_told(self):
        self.assertEqual(segments(*GAPS)[8]["ranges"], [(2401, 3801), (5201, 6601)])
        self.assertEqual(told_of(1, "wanted unread pieces", *GAPS), [1, 0, 2])

    def test_only_what_is_missing_is_sent_anew(self):
        line = (*GAPS, bring(7, 1), bring(8, 1), bring(8, 1))
        self.assertEqual(from_number(9, *line), [(0, 1, 1400, ACKED)])
        line += (bring(8, 1),)
        self.assertEqual(from_number(9, *line), [(0, 1, 1400, ACKED), (0, 2801, 1400, ACKED)])
        self.assertEqual(last(*line, bring(8, 1)), [0, 11])
        line += (bring(10, 2), bring(9, 2), read(1, 2, 9999))
        self.assertEqual(last(*line)[:-1], [5600] + stuff(5600))

    def test_what_is_sent_anew_is_lost_too(self):
        line = (*GAPS, bring(7, 1), bring(8, 1), bring(8, 1), bring(8, 1), bring(10, 2))
        self.assertEqual(segments(*line)[11]["ranges"], [(2401, 6601)])
        line += (bring(11, 3), tick(0, 199), tick(0, 200))
        self.assertEqual([answer[1] for answer in ask(*line)[-3:]], [12, 12, 13])
        self.assertEqual(from_number(12, *line), [(0, 1, 1400, ACKED)])
        line += (bring(12, 201), read(1, 201, 9999))
        self.assertEqual(last(*line)[:-1], [5600] + stuff(5600))

    def test_a_piece_is_laid_over_another(self):
        # Sent anew from the first place not acked on, bytes stand in segments another way than at first.
        line = (*MET, write(0, 0, [1]), write(0, 0, stuff(3000)), tick(0, 200))
        self.assertEqual(from_number(3, *line), [
            (0, 1, 1, ACKED), (0, 2, 1400, ACKED), (0, 1402, 1400, ACKED), (0, 1, 1400, ACKED),
        ])
        line += (bring(5, 201), bring(6, 201), bring(4, 201), bring(3, 201), read(1, 201, 9999))
        self.assertEqual(last(*line)[:-1], [2801] + [1] + stuff(2800))


class TimeGoesOn(unittest.TestCase):
    def test_what_is_sent_again_and_comes_twice_is_read_once(self):
        line = (*MET, write(0, 0, [7, 8]), tick(0, 200), bring(3, 250), bring(4, 250), read(1, 250, 9), read(1, 250, 9))
        self.assertEqual(ask(*line)[3:], [[0, 5], [0, 5], [0, 6], [2, 7, 8, 6], [0, 6]])

    def test_nothing_is_held_then(self):
        line = (*GAPS, bring(8, 1), tick(0, 200))
        self.assertEqual(told_of(0, "first next top wide slow wait", *line), [1, 1401, 5601, 1400, 2800, 400])
        # What came of it is passed over once it's told anew.
        line += (bring(9, 201), bring(10, 201))
        self.assertEqual(told_of(0, "first next", *line), [2801, 5601])
        self.assertEqual(from_number(11, *line), [(0, 2801, 1400, ACKED)])

    def test_an_ack_that_comes_after_it_was_sent_again(self):
        line = (*MET, write(0, 0, [7, 8]), bring(3, 0), tick(1, 40), tick(0, 200), bring(4, 399))
        self.assertEqual(ask(*line)[3:], [[0, 4], [0, 5], [0, 6], [0, 6]])
        # It may be the ack of either, so how long it took isn't measured.
        self.assertEqual(told_of(0, "first unacked wait", *line), [3, 0, 400])

    def test_lost_again_and_again_until_nobody_answers(self):
        line = [*MET, write(0, 0, [7])]
        for at in (200, 600, 1400, 3000, 6200, 12600, 25400, 51000):
            self.assertEqual(last(*line, due(0))[:2], [1, at])
            line.append(tick(0, at))
        self.assertEqual(told_of(0, "phase why", *line, tick(0, 102199)), [4, 0])
        self.assertEqual(told_of(0, "phase why", *line, tick(0, 102200)), [6, 3])
        self.assertEqual(last(*line, due(0)), [1, 102200, 12])

    def test_damaged_and_cut_it_is_as_if_lost(self):
        line = (*MET, write(0, 0, [7]), damage(3, 5, 20, 8), cut(3, 5, 20), tick(1, 100))
        self.assertEqual(ask(*line)[3:], [[-3, 4], [-3, 4], [0, 4]])
        self.assertEqual(ask(*line, tick(0, 200), bring(4, 210), read(1, 210, 9))[6:], [[0, 5], [0, 5], [1, 7, 5]])


class Closing(unittest.TestCase):
    def ended(self, line, first, second):
        """That first lingers and second is over, each having read the other's end."""
        self.assertEqual(told_of(first, CLOSING, *line), [5, 0, 1])
        self.assertEqual(told_of(second, CLOSING, *line), [6, 1, 1])

    def test_in_either_order(self):
        for first, second in ((0, 1), (1, 0)):
            line = (*MET, close(first, 0), bring(3, 0), bring(4, 0), close(second, 0), bring(5, 0), bring(6, 0))
            self.assertEqual([answer[1] for answer in ask(*line)[2:]], [4, 5, 5, 6, 7, 7])
            self.ended(line, first, second)
            self.assertEqual(told_of(first, CLOSING, *line, tick(first, 59999)), [5, 0, 1])
            self.assertEqual(told_of(first, CLOSING, *line, tick(first, 60000)), [6, 1, 1])

    def test_the_first_end_is_lost(self):
        line = (*MET, close(0, 0), tick(0, 200), bring(4, 200), bring(5, 200), close(1, 200), rush(200))
        self.ended(line, 0, 1)
        self.assertEqual(from_number(3, *line)[:2], [(0, 1, 0, END + ACKED)] * 2)

    def test_the_last_ack_is_lost(self):
        line = (*MET, close(0, 0), bring(3, 0), bring(4, 0), close(1, 0), bring(5, 0))
        self.assertEqual(told_of(1, CLOSING, *line), [4, 0, 1])
        line += (tick(1, 200), bring(7, 300), due(0), bring(8, 300))
        self.assertEqual(ask(*line)[-4:], [[0, 8], [0, 9], [1, 60300, 9], [0, 9]])
        self.ended(line, 0, 1)

    def test_at_once_both_linger(self):
        line = (*MET, close(0, 0), close(1, 0), bring(4, 0), bring(3, 0), bring(6, 0), bring(5, 0))
        self.assertEqual([answer[1] for answer in ask(*line)[2:]], [4, 5, 6, 7, 7, 7])
        for side in (0, 1):
            self.assertEqual(told_of(side, CLOSING, *line), [5, 0, 1])

    def test_the_second_end_ahead_of_its_bytes(self):
        line = (*MET, close(0, 0), bring(3, 0), bring(4, 0), write(1, 0, [4]), close(1, 0))
        line += (bring(6, 0), read(0, 0, 9), bring(5, 0), read(0, 0, 9), read(0, 0, 9))
        self.assertEqual(ask(*line)[-4:], [[0, 8], [0, 8], [1, 4, 8], [-6, 8]])
        self.assertEqual(told_of(0, CLOSING, *line), [5, 0, 1])
        # What came last is no end itself, so its ack may wait, also while it lingers.
        self.assertEqual(ask(*line, due(0), tick(0, 40), due(0))[-3:], [[1, 40, 8], [0, 9], [1, 60000, 9]])

    def test_one_goes_on_writing_after_the_other_closed(self):
        line = (*MET, close(0, 0), rush(0), write(1, 0, stuff(6000)), rush(0), tick(0, 40), rush(40), close(1, 40))
        line += (rush(40), read(0, 40, 9999), read(0, 40, 9999), read(1, 40, 9))
        given = ask(*line)
        self.assertEqual(given[-3][:-1], [6000] + stuff(6000))
        self.assertEqual([given[-2][0], given[-1][0]], [-6, -6])
        self.ended(line, 0, 1)

    def test_an_end_that_comes_twice_is_told_once(self):
        line = (*MET, write(0, 0, [4]), close(0, 0), bring(3, 0), bring(4, 0), bring(4, 0), bring(3, 0))
        line += (read(1, 0, 9), read(1, 0, 9))
        self.assertEqual(ask(*line)[4:], [[0, 5], [0, 6], [0, 7], [0, 8], [1, 4, 8], [-6, 8]])
        self.assertEqual(told_of(1, "wanted ended", *line), [3, 1])


class Resetting(unittest.TestCase):
    def test_a_reset_that_is_lost(self):
        line = (*MET, reset(0, 0), write(1, 0, [1]), bring(4, 0))
        self.assertEqual(ask(*line)[2:], [[0, 4], [1, 5], [-4, 5]])
        self.assertEqual(told_of(1, "phase why", *line), [4, 0])
        self.assertEqual(told_of(1, "phase why", *line, bring(3, 10)), [6, 2])

    def test_a_reset_ahead_of_bytes_gets_an_ack(self):
        line = (*MET, write(0, 0, [1, 2]), reset(0, 0), bring(4, 0))
        self.assertEqual(last(*line), [0, 6])
        self.assertEqual(told_of(1, "phase why", *line), [4, 0])
        line += (bring(3, 0), bring(4, 0), read(1, 0, 9), read(1, 0, 9))
        self.assertEqual(ask(*line)[-2:], [[2, 1, 2, 6], [-6, 6]])

    def test_an_old_reset_is_nothing(self):
        line = (*MET, reset(0, 0), bring(3, 0), bring(3, 0))
        self.assertEqual(ask(*line)[-2:], [[0, 4], [-4, 4]])


class Beginning(unittest.TestCase):
    def test_a_begin_that_is_lost(self):
        line = (meet(0, 0, 0), tick(0, 1000)) + tuple(bring(number, 1000) for number in (1, 0, 2, 3, 4))
        self.assertEqual([answer[1] for answer in ask(*line)], [1, 2, 3, 4, 5, 5, 5])
        self.assertEqual([told_of(side, "phase", *line) for side in (0, 1)], [[4], [4]])

    def test_an_answer_that_is_lost(self):
        # Left's begin is due anew by then too.
        line = (meet(0, 0, 0), bring(0, 0), tick(1, 1000), bring(2, 1000), bring(3, 1000), bring(4, 1000))
        self.assertEqual([answer[1] for answer in ask(*line)], [1, 2, 3, 5, 6, 6])
        self.assertEqual([told_of(side, "phase", *line) for side in (0, 1)], [[4], [4]])

    def test_an_ack_ahead_of_the_answer_is_nothing(self):
        # A begin that comes again gets a plain ack, which comes ahead of the answer.
        line = (meet(0, 0, 0), bring(0, 0), bring(0, 0), bring(2, 0))
        self.assertEqual(ask(*line)[1:], [[0, 2], [0, 3], [0, 3]])
        self.assertEqual(told_of(0, "phase", *line), [2])
        self.assertEqual(told_of(0, "phase", *line, bring(1, 0)), [4])

    def test_a_side_that_was_reset_as_it_answered(self):
        line = (meet(0, 0, 0), bring(0, 0), bring(1, 0), reset(1, 0), bring(2, 0), bring(3, 0))
        self.assertEqual(ask(*line)[3:], [[0, 4], [-4, 4], [0, 4]])
        self.assertEqual(told_of(0, "phase why", *line), [6, 2])


if __name__ == "__main__":
    unittest.main()

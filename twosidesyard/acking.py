"""What's acked: how long it took, what's gone then, and how much may be on its way from then on."""

from twosidesyard.segment import MOST_DATA
from twosidesyard.sending import send_anew
from twosidesyard.side import due_after_wait
from twosidesyard.spans import spans_above

MOST_WIDE = 1048576
LEAST_SLOW = 2800
LEAST_WAIT = 200
MOST_WAIT = 60000
SAME_TO_MEND = 3
MENDING_WIDTH = 4200


def measure(side, place):
    """Measures how long what's timed took, if a place acked says that it came."""
    pace = side.pace
    if pace.timed is None or pace.timed > place:
        return
    took = side.now - pace.timed_since
    if pace.measured:
        pace.off = pace.off - pace.off // 4 + abs(took - pace.mean // 8)
        pace.mean = pace.mean - pace.mean // 8 + took
    else:
        pace.measured = True
        pace.mean = 8 * took
        pace.off = 2 * took
    pace.wait = min(MOST_WAIT, max(LEAST_WAIT, pace.mean // 8 + max(1, pace.off)))
    pace.timed = None


def double_wait(side):
    side.pace.wait = min(MOST_WAIT, 2 * side.pace.wait)


def halve_slow(sending):
    sending.slow = max(LEAST_SLOW, (sending.top - sending.first) // 2)


def widen(sending, by):
    sending.wide = min(MOST_WIDE, sending.wide + by)


def forget_below(sending, place):
    # The begin has no byte to lose.
    sending.unacked = sending.unacked[place - max(1, sending.first):]
    sending.first = place
    sending.next_place = max(sending.next_place, place)
    sending.held = spans_above(sending.held, place)


def ack_place(side, place, quiet):
    sending = side.sending
    if place > sending.first:
        ack_more(side, place)
    elif place == sending.first and sending.first < sending.top and quiet:
        ack_same(side)


def ack_more(side, place):
    sending = side.sending
    gained = place - sending.first
    measure(side, place)
    forget_below(sending, place)
    side.pace.due = None
    if place < sending.top:
        due_after_wait(side)
    if sending.mending is None:
        sending.same = 0
        widen(sending, growth(sending, gained))
    elif sending.mending <= place:
        sending.mending = None
        sending.wide = sending.slow
        sending.same = 0
    else:
        sending.wide -= min(gained, sending.wide)
        widen(sending, MOST_DATA)
        sending.anew = max(sending.anew, place)
        send_anew(side)


def growth(sending, gained):
    if sending.wide < sending.slow:
        return min(gained, MOST_DATA)
    return max(1, MOST_DATA * MOST_DATA // sending.wide)


def ack_same(side):
    sending = side.sending
    if sending.mending is not None:
        widen(sending, MOST_DATA)
        send_anew(side)
        return
    sending.same += 1
    if sending.same == SAME_TO_MEND:
        halve_slow(sending)
        sending.wide = sending.slow + MENDING_WIDTH
        sending.mending = sending.top
        sending.anew = sending.first
        send_anew(side)

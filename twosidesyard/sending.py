"""What a side sends: segments said, bytes sent, all that may be sent, and what's sent anew."""

from twosidesyard.segment import ACKED, BEGIN, END, MOST_DATA, MOST_RANGES, RESET, Segment, segment_bytes
from twosidesyard.side import (
    ROOM_UNIT,
    due_after_wait,
    edge_to_tell,
    is_talking,
    last_place,
    number_of,
    set_timed,
)
from twosidesyard.spans import past_span, piece_end, up_to_span


def say(side, place, flags, data):
    number = number_of(side.base, place)
    if not is_talking(side):
        post(side, Segment(side.mine, side.theirs, number, 0, flags, 1024, [], data))
        return
    coming = side.coming
    coming.edge = edge_to_tell(coming)
    # An end right at the edge brings wanted one above it.
    window = max(0, coming.edge - coming.wanted) // ROOM_UNIT
    acked = number_of(side.other_base, coming.wanted)
    ranges = told_ranges(side)
    post(side, Segment(side.mine, side.theirs, number, acked, flags | ACKED, window, ranges, data))
    coming.owed = 0


def post(side, segment):
    side.outbox.append(segment_bytes(segment, side.me, side.them))


def told_ranges(side):
    ranges = []
    for piece in side.coming.pieces[:MOST_RANGES]:
        ranges.append((number_of(side.other_base, piece[0]), number_of(side.other_base, piece_end(piece))))
    return ranges


def say_begin(side):
    say(side, 0, BEGIN, [])


def say_ack(side):
    say(side, side.sending.top, 0, [])


def say_reset(side):
    say(side, side.sending.top, RESET, [])


def refuse(side, sender, segment):
    """A reset to whoever sent it, who needn't be the other side."""
    answer = Segment(side.mine, segment.from_port, segment.acked, 0, RESET, 0, [], [])
    side.outbox.append(segment_bytes(answer, side.me, sender))


def send_bytes(side, place, size, with_end):
    """Sends so many bytes from a place on; gives back the place behind them."""
    sending = side.sending
    start = place - sending.first
    data = sending.unacked[start:start + size]
    behind = place + size
    flags = 0
    if with_end:
        behind += 1
        flags = END
    say(side, place, flags, data)
    if side.pace.timed is None and place >= sending.top:
        set_timed(side, behind)
    sending.top = max(sending.top, behind)
    if side.pace.due is None:
        due_after_wait(side)
    return behind


def ends_with(sending, behind):
    """Whether bytes up to there bring the end with them."""
    return sending.closing and behind == last_place(sending)


def send_next(side, size):
    sending = side.sending
    with_end = ends_with(sending, sending.next_place + size)
    sending.next_place = send_bytes(side, sending.next_place, size, with_end)


def send_one(side):
    """One byte to ask for room; nothing's timed, for it may wait for that long."""
    send_next(side, 1)
    side.pace.timed = None


def sendable(sending):
    """How many bytes may be sent from next on."""
    place = sending.next_place
    size = min(
        MOST_DATA,
        last_place(sending) - place,
        sending.first + sending.wide - place,
        sending.room - place,
    )
    return up_to_span(sending.held, place, max(0, size))


def waits_for_more(sending, size):
    """Whether so few bytes had better wait until what's on its way is acked."""
    if size >= MOST_DATA or sending.first >= sending.next_place or sending.next_place < sending.top:
        return False
    return not ends_with(sending, sending.next_place + size)


def send_step(side):
    """Sends one segment if it may; gives back whether it did."""
    sending = side.sending
    sending.next_place = past_span(sending.held, sending.next_place)
    size = 0
    if sending.next_place < last_place(sending):
        size = sendable(sending)
        if size == 0 or waits_for_more(sending, size):
            return False
    elif not ends_with(sending, sending.next_place):
        return False
    send_next(side, size)
    return True


def send_all(side):
    """Sends all that may be sent; gives back whether that was anything."""
    if side.phase != 4:
        return False
    sending = side.sending
    any_sent = False
    while send_step(side):
        any_sent = True
    unfinished = sending.first < sending.top or sending.next_place < last_place(sending)
    if side.pace.due is None and unfinished:
        due_after_wait(side)
    return any_sent


def may_be_anew(sending, place):
    if place >= sending.top:
        return False
    if len(sending.held) == 0:
        return place == sending.first
    return place < sending.held[-1][0]


def send_anew(side):
    sending = side.sending
    place = past_span(sending.held, max(sending.first, sending.anew))
    if not may_be_anew(sending, place):
        return
    last = last_place(sending)
    size = up_to_span(sending.held, place, min(MOST_DATA, last - place, sending.top - place))
    with_end = ends_with(sending, place + size) and sending.top > last
    # It's below top, so it isn't timed itself either.
    side.pace.timed = None
    sending.anew = send_bytes(side, place, size, with_end)

"""What comes: what a side makes of a segment, by its phase."""

from twosidesyard.acking import ack_place, measure
from twosidesyard.segment import ACKED, BEGIN, END, RESET, has, places_of
from twosidesyard.sending import refuse, say_ack, say_begin, send_all
from twosidesyard.side import (
    ROOM_UNIT,
    due_after_wait,
    end_side,
    hear,
    last_place,
    place_near,
    set_timed,
)
from twosidesyard.spans import piece_end, with_piece, with_span

LINGERING = 60000
ACK_DELAY = 40


def arrive(side, sender, segment):
    if side.phase == 1:
        arrive_waiting(side, sender, segment)
    elif side.phase == 2:
        arrive_begun(side, sender, segment)
    else:
        arrive_talking(side, sender, segment)


def arrive_waiting(side, sender, segment):
    if has(segment, RESET):
        return
    if has(segment, ACKED):
        refuse(side, sender, segment)
    elif has(segment, BEGIN):
        side.them = sender
        side.theirs = segment.from_port
        learn_begin(side, segment)
        side.sending.next_place = 1
        side.sending.top = 1
        side.phase = 3
        say_begin(side)
        due_after_wait(side)
        set_timed(side, 1)


def learn_begin(side, segment):
    side.other_base = segment.number
    side.coming.wanted = 1
    side.sending.room = 1 + ROOM_UNIT * segment.window
    hear(side)


def arrive_begun(side, sender, segment):
    acks = has(segment, ACKED)
    acks_begin = acks and place_near(side.base, segment.acked, 1) == 1
    if has(segment, RESET):
        if acks_begin:
            end_side(side, 2)
    elif acks and not acks_begin:
        refuse(side, sender, segment)
    elif has(segment, BEGIN):
        learn_begin(side, segment)
        if acks_begin:
            become_open(side)
        else:
            side.phase = 3
            say_begin(side)


def become_open(side):
    side.phase = 4
    measure(side, 1)
    side.sending.first = 1
    side.pace.tries = 0
    side.pace.due = None
    say_ack(side)
    send_all(side)


def fits(coming, place, segment):
    if place is None:
        return False
    places = places_of(segment)
    if places > 0:
        return place < coming.edge and place + places > coming.wanted
    return coming.wanted <= place <= coming.edge + 2


def arrive_talking(side, sender, segment):
    place = place_near(side.other_base, segment.number, side.coming.wanted)
    if not fits(side.coming, place, segment):
        arrive_unfit(side, segment)
        return
    hear(side)
    if has(segment, RESET) and place == side.coming.wanted:
        end_side(side, 2)
    elif has(segment, RESET) or has(segment, BEGIN):
        say_ack(side)
    elif has(segment, ACKED):
        arrive_acking(side, sender, segment, place)


def arrive_unfit(side, segment):
    if has(segment, RESET):
        return
    say_ack(side)
    if side.phase == 5:
        side.pace.lingers_until = side.now + LINGERING


def arrive_acking(side, sender, segment, place):
    top = side.sending.top
    acked = place_near(side.base, segment.acked, top)
    if acked is None:
        acked = 0
    if side.phase == 3 and not 1 <= acked <= top:
        refuse(side, sender, segment)
    elif acked > top:
        say_ack(side)
    else:
        arrive_in_order(side, segment, place, acked)


def arrive_in_order(side, segment, place, acked):
    if side.phase == 3:
        side.phase = 4
    side.pace.tries = 0
    sending = side.sending
    room = acked + ROOM_UNIT * segment.window
    quiet = len(segment.data) == 0 and not has(segment, END) and room <= sending.room
    sending.room = max(sending.room, room)
    hold_ranges(side, segment, acked)
    ack_place(side, acked, quiet)
    take(side, segment, place)
    send_all(side)
    if side.coming.owed == 2:
        say_ack(side)
    finish(side)


def hold_ranges(side, segment, acked):
    sending = side.sending
    floor = max(acked, sending.first)
    for pair in segment.ranges:
        start = place_near(side.base, pair[0], sending.top)
        stop = place_near(side.base, pair[1], sending.top)
        if start is not None and stop is not None and floor < start < stop <= sending.top:
            sending.held = with_span(sending.held, start, stop)


def take(side, segment, place):
    if len(segment.data) == 0 and not has(segment, END):
        return
    coming = side.coming
    old_wanted = coming.wanted
    had_pieces = len(coming.pieces) > 0
    take_data(coming, segment.data, place)
    if has(segment, END):
        learn_end(coming, place + len(segment.data))
    read_on(side)
    has_pieces = len(coming.pieces) > 0
    usual = not has(segment, END) and not had_pieces and not has_pieces and coming.wanted > old_wanted
    if coming.owed == 0 and usual:
        coming.owed = 1
        coming.owed_due = side.now + ACK_DELAY
    else:
        coming.owed = 2


def take_data(coming, data, place):
    start = max(place, coming.wanted)
    stop = min(place + len(data), coming.edge)
    if start < stop and not coming.ended:
        coming.pieces = with_piece(coming.pieces, start, data[start - place:stop - place])


def learn_end(coming, place):
    if coming.end_place is None and coming.wanted <= place <= coming.edge:
        coming.end_place = place


def read_on(side):
    """Makes what's come in a row readable, and the end behind it known to have come."""
    coming = side.coming
    if len(coming.pieces) > 0 and coming.pieces[0][0] == coming.wanted:
        coming.unread = coming.unread + coming.pieces[0][1]
        coming.wanted = piece_end(coming.pieces[0])
        coming.pieces = coming.pieces[1:]
    if coming.end_place == coming.wanted:
        coming.wanted += 1
        coming.ended = True
        coming.closing_before_end = side.sending.closing


def finish(side):
    """Once both ended: who closed first lingers, for the other may not know that its end came."""
    sending = side.sending
    all_acked = sending.closing and sending.first > last_place(sending)
    if side.phase != 4 or not all_acked or not side.coming.ended:
        return
    if side.coming.closing_before_end:
        side.phase = 5
        side.pace.lingers_until = side.now + LINGERING
        side.pace.due = None
    else:
        end_side(side, 1)

"""A side's calls: each answers a list of numbers, of a refusal its number alone."""

from twosidesyard.arriving import arrive
from twosidesyard.segment import read_segment
from twosidesyard.sending import say_ack, say_begin, say_reset, send_all
from twosidesyard.side import (
    NUMBERS,
    SPACE,
    due_after_wait,
    edge_to_tell,
    end_side,
    hear,
    is_talking,
    renew,
    set_timed,
)
from twosidesyard.timing import asking_time, go_on, may_ask

LAST_TIME = 4611686018427387904
MOST_KEPT_UP = 2147483648
MOST_WRITTEN = 1073741824


def is_time(now):
    return 0 <= now <= LAST_TIME


def is_address(address):
    return 1 <= address <= NUMBERS - 2


def is_address_and_port(address, port):
    return is_address(address) and 1 <= port <= 65535


def is_base(base):
    return 0 <= base < NUMBERS


def open_side(side, me, mine, them, theirs, base, now):
    if not (is_address_and_port(me, mine) and is_address_and_port(them, theirs) and is_base(base) and is_time(now)):
        return [-1]
    if side.phase != 0 and side.phase != 6:
        return [-4]
    side.now = max(side.now, now)
    renew(side, me, mine, base)
    side.them = them
    side.theirs = theirs
    side.phase = 2
    side.sending.next_place = 1
    side.sending.top = 1
    say_begin(side)
    due_after_wait(side)
    set_timed(side, 1)
    return [0]


def wait_side(side, me, mine, base, now):
    if not (is_address_and_port(me, mine) and is_base(base) and is_time(now)):
        return [-1]
    if side.phase != 0 and side.phase != 6:
        return [-4]
    side.now = max(side.now, now)
    renew(side, me, mine, base)
    side.phase = 1
    return [0]


def is_of_stream(side, sender, segment):
    if segment.to_port != side.mine:
        return False
    return side.phase == 1 or (sender == side.them and segment.from_port == side.theirs)


def came(side, sender, now, octets):
    if not (is_address(sender) and is_time(now)):
        return [-1]
    go_on(side, now)
    if side.phase == 0 or side.phase == 6:
        return [-4]
    segment = read_segment(octets, sender, side.me)
    if segment is None:
        return [-3]
    if not is_of_stream(side, sender, segment):
        return [-2]
    arrive(side, sender, segment)
    return [0]


def refusal_to_write(side):
    """Why nothing more can be written or closed; 0 if it can."""
    if side.phase == 0 or side.phase == 1:
        return -4
    if side.phase == 5 or side.phase == 6 or side.sending.closing:
        return -6
    return 0


def write(side, now, data):
    if not is_time(now):
        return [-1]
    go_on(side, now)
    refusal = refusal_to_write(side)
    if refusal < 0:
        return [refusal]
    sending = side.sending
    space = min(SPACE - len(sending.unacked), MOST_WRITTEN - sending.written)
    taken = data[:space]
    sending.unacked = sending.unacked + taken
    sending.written += len(taken)
    send_all(side)
    return [len(taken)]


def read(side, now, most):
    if not is_time(now):
        return [-1]
    go_on(side, now)
    coming = side.coming
    if len(coming.unread) == 0:
        if side.phase == 0 or side.phase == 1:
            return [-4]
        if coming.ended or side.phase == 6:
            return [-6]
    taken = coming.unread[:most]
    coming.unread = coming.unread[most:]
    if is_talking(side) and not coming.ended and edge_to_tell(coming) > coming.edge:
        say_ack(side)
    return [len(taken)] + taken


def close(side, now):
    if not is_time(now):
        return [-1]
    go_on(side, now)
    refusal = refusal_to_write(side)
    if refusal < 0:
        return [refusal]
    side.sending.closing = True
    send_all(side)
    return [0]


def reset(side, now):
    if not is_time(now):
        return [-1]
    go_on(side, now)
    if side.phase == 0 or side.phase == 5 or side.phase == 6:
        return [-4]
    if is_talking(side):
        say_reset(side)
    end_side(side, 4)
    return [0]


def tick(side, now):
    if not is_time(now):
        return [-1]
    go_on(side, now)
    return [0]


def keep(side, now, kept_up):
    if not (is_time(now) and 0 <= kept_up <= MOST_KEPT_UP):
        return [-1]
    go_on(side, now)
    side.pace.kept_up = kept_up
    hear(side)
    return [0]


def due(side):
    times = []
    if side.phase == 5:
        times.append(side.pace.lingers_until)
    if side.coming.owed > 0:
        times.append(side.coming.owed_due)
    if side.pace.due is not None:
        times.append(side.pace.due)
    if may_ask(side):
        times.append(asking_time(side))
    if len(times) == 0:
        return [0]
    return [1, min(times)]


def told(side):
    sending = side.sending
    coming = side.coming
    out = [side.phase, side.why, sending.written, len(sending.unacked)]
    out += [sending.first, sending.next_place, sending.top, sending.room]
    out += [sending.wide, sending.slow, side.pace.wait]
    out += [coming.wanted, len(coming.unread), coming.edge, len(coming.pieces)]
    return [0] + out + [1 if coming.ended else 0]

"""The link between two sides, and the answers to a line of calls about them."""

from twosidesyard.calls import (
    came,
    close,
    due,
    is_base,
    is_time,
    keep,
    open_side,
    read,
    reset,
    tick,
    told,
    wait_side,
    write,
)
from twosidesyard.side import Side

LEFT = 0
RIGHT = 1
ADDRESSES = (167772161, 167772162)
PORTS = (1024, 7)
MOST_RUSHED = 1000

MEET = 1
WRITE = 2
READ = 3
CLOSE = 4
RESET = 5
TICK = 6
KEEP = 7
DUE = 8
SENT = 10
BRING = 11
DAMAGE = 12
CUT = 13
RUSH = 14

# How many whole numbers stand behind a call's own number, ahead of its row if it has one.
NUMBERS_OF = {1: 3, 2: 2, 3: 3, 4: 2, 5: 2, 6: 2, 7: 3, 8: 1, 9: 1, 10: 1, 11: 2, 12: 4, 13: 3, 14: 1}


class UnknownCall(ValueError):
    """A call's number that stands for no call here."""


class Call:
    """One call out of a line: its number, its whole numbers, its row, and where the next one begins."""

    def __init__(self, kind, numbers, row, behind):
        self.kind = kind
        self.numbers = numbers
        self.row = row
        self.behind = behind


class Carried:
    """What's on the link: by which side it was sent, its bytes, and whether it ever came."""

    def __init__(self, sender, octets):
        self.sender = sender
        self.octets = octets
        self.has_come = False


class Link:
    """Two sides and all that they ever sent; what stands there ahead of looked_at has come."""

    def __init__(self):
        begin_anew(self)


def begin_anew(link):
    link.sides = [Side(), Side()]
    link.carried = []
    link.looked_at = 0


def collect(link, which):
    """Puts on the link what a side says is to be sent."""
    side = link.sides[which]
    for octets in side.outbox:
        link.carried.append(Carried(which, octets))
    side.outbox = []


def meet(link, base, base_right, now):
    if not (is_base(base) and is_base(base_right) and is_time(now)):
        return [-1]
    begin_anew(link)
    wait_side(link.sides[RIGHT], ADDRESSES[RIGHT], PORTS[RIGHT], base_right, now)
    open_side(link.sides[LEFT], ADDRESSES[LEFT], PORTS[LEFT], ADDRESSES[RIGHT], PORTS[RIGHT], base, now)
    collect(link, LEFT)
    return [0, len(link.carried)]


def deliver(link, carried, now, octets):
    """Brings these bytes to the other side, in the place of what was sent; gives back its answer."""
    carried.has_come = True
    which = LEFT if carried.sender == RIGHT else RIGHT
    answer = came(link.sides[which], ADDRESSES[carried.sender], now, octets)
    collect(link, which)
    return answer


def rush(link, now):
    if not is_time(now):
        return [-1]
    brought = 0
    # What's sent thereby comes too, so how many are left is asked anew each time.
    while link.looked_at < len(link.carried) and brought < MOST_RUSHED:
        carried = link.carried[link.looked_at]
        link.looked_at += 1
        if not carried.has_come:
            deliver(link, carried, now, carried.octets)
            brought += 1
    return [brought, len(link.carried)]


def sent(carried):
    return [0, carried.sender, 1 if carried.has_come else 0, len(carried.octets)] + carried.octets


def damaged(octets, place, octet):
    if place >= len(octets):
        return octets
    return octets[:place] + [octet % 256] + octets[place + 1:]


def arriving_bytes(call, octets):
    """What comes of a segment's bytes: all as they are, with one changed, or only the first ones."""
    if call.kind == DAMAGE:
        return damaged(octets, call.numbers[2], call.numbers[3])
    if call.kind == CUT:
        return octets[:call.numbers[2]]
    return octets


def segment_answer(link, call):
    """The answer to a call that's about one segment on the link."""
    if call.numbers[0] >= len(link.carried):
        return [-2]
    carried = link.carried[call.numbers[0]]
    if call.kind == SENT:
        return sent(carried)
    now = call.numbers[1]
    if not is_time(now):
        return [-1]
    answer = deliver(link, carried, now, arriving_bytes(call, carried.octets))
    return answer + [len(link.carried)]


def side_answer(side, kind, rest, row):
    """What a side's own call answers to what it's handed."""
    if kind == WRITE:
        return write(side, rest[0], row)
    if kind == READ:
        return read(side, rest[0], rest[1])
    if kind == CLOSE:
        return close(side, rest[0])
    if kind == RESET:
        return reset(side, rest[0])
    if kind == TICK:
        return tick(side, rest[0])
    if kind == KEEP:
        return keep(side, rest[0], rest[1])
    if kind == DUE:
        return due(side)
    return told(side)


def answer_to(link, call):
    if call.kind == MEET:
        return meet(link, call.numbers[0], call.numbers[1], call.numbers[2])
    if call.kind == RUSH:
        return rush(link, call.numbers[0])
    if call.kind in (SENT, BRING, DAMAGE, CUT):
        return segment_answer(link, call)
    which = call.numbers[0]
    if which != LEFT and which != RIGHT:
        return [-1]
    answer = side_answer(link.sides[which], call.kind, call.numbers[1:], call.row)
    collect(link, which)
    return answer + [len(link.carried)]


def call_at(calls, at):
    kind = calls[at]
    if kind not in NUMBERS_OF:
        raise UnknownCall(f"no call has the number {kind}")
    behind = at + 1 + NUMBERS_OF[kind]
    numbers = calls[at + 1:behind]
    row = []
    if kind == WRITE:
        start = behind + 1
        behind = start + calls[behind]
        row = calls[start:behind]
    return Call(kind, numbers, row, behind)


def answers(calls):
    """The answers to a line of calls, each with how many numbers it has before it."""
    link = Link()
    given = []
    at = 0
    while at < len(calls):
        call = call_at(calls, at)
        answer = answer_to(link, call)
        given.append(len(answer))
        given.extend(answer)
        at = call.behind
    return given

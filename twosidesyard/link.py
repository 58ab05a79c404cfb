"""The link between two sides, and the answers to a line of calls about them."""

from twosidesyard.calls import (
    came,
    close,
    is_base,
    is_time,
    keep,
    open_side,
    read,
    reset,
    tick,
    wait_side,
    write,
)
from twosidesyard.side import Side

LEFT = 0
RIGHT = 1
ADDRESSES = (167772161, 167772162)
PORTS = (1024, 7)
MOST_RUSHED = 1000

MEET = 1
WRITE = 2
READ = 3
CLOSE = 4
RESET = 5
TICK = 6
RUSH = 14

# How many whole numbers stand behind a call's own number, ahead of its row if it has one.
NUMBERS_OF = {1: 3, 2: 2, 3: 3, 4: 2, 5: 2, 6: 2, 7: 3, 14: 1}


class UnknownCall(ValueError):
    """A call's number that stands for no call here."""


class Call:
    """One call out of a line: its number, its whole numbers, its row, and where the next one begins."""

    def __init__(self, kind, numbers, row, behind):
        self.kind = kind
        self.numbers = numbers
        self.row = row
        self.behind = behind


class Carried:
    """What's on the link: by which side it was sent, and its bytes."""

    def __init__(self, sender, octets):
        self.sender = sender
        self.octets = octets


class Link:
    """Two sides and all that they ever sent; so many of these, the first ones, have come."""

    def __init__(self):
        begin_anew(self)


def begin_anew(link):
    link.sides = [Side(), Side()]
    link.carried = []
    link.have_come = 0


def collect(link, which):
    """Puts on the link what a side says is to be sent."""
    side = link.sides[which]
    for octets in side.outbox:
        link.carried.append(Carried(which, octets))
    side.outbox = []


def meet(link, base, base_right, now):
    if not (is_base(base) and is_base(base_right) and is_time(now)):
        return [-1]
    begin_anew(link)
    wait_side(link.sides[RIGHT], ADDRESSES[RIGHT], PORTS[RIGHT], base_right, now)
    open_side(link.sides[LEFT], ADDRESSES[LEFT], PORTS[LEFT], ADDRESSES[RIGHT], PORTS[RIGHT], base, now)
    collect(link, LEFT)
    return [0, len(link.carried)]


def bring_next(link, now):
    carried = link.carried[link.have_come]
    link.have_come += 1
    which = LEFT if carried.sender == RIGHT else RIGHT
    came(link.sides[which], ADDRESSES[carried.sender], now, carried.octets)
    collect(link, which)


def rush(link, now):
    if not is_time(now):
        return [-1]
    brought = 0
    # What's sent thereby comes too, so how many are left is asked anew each time.
    while link.have_come < len(link.carried) and brought < MOST_RUSHED:
        bring_next(link, now)
        brought += 1
    return [brought, len(link.carried)]


def side_answer(side, call):
    now = call.numbers[1]
    if call.kind == WRITE:
        return write(side, now, call.row)
    if call.kind == READ:
        return read(side, now, call.numbers[2])
    if call.kind == CLOSE:
        return close(side, now)
    if call.kind == RESET:
        return reset(side, now)
    if call.kind == TICK:
        return tick(side, now)
    return keep(side, now, call.numbers[2])


def answer_to(link, call):
    if call.kind == MEET:
        return meet(link, call.numbers[0], call.numbers[1], call.numbers[2])
    if call.kind == RUSH:
        return rush(link, call.numbers[0])
    which = call.numbers[0]
    if which != LEFT and which != RIGHT:
        return [-1]
    answer = side_answer(link.sides[which], call)
    collect(link, which)
    return answer + [len(link.carried)]


def call_at(calls, at):
    kind = calls[at]
    if kind not in NUMBERS_OF:
        raise UnknownCall(f"no call has the number {kind}")
    behind = at + 1 + NUMBERS_OF[kind]
    numbers = calls[at + 1:behind]
    row = []
    if kind == WRITE:
        start = behind + 1
        behind = start + calls[behind]
        row = calls[start:behind]
    return Call(kind, numbers, row, behind)


def answers(calls):
    """The answers to a line of calls, each with how many numbers it has before it."""
    link = Link()
    given = []
    at = 0
    while at < len(calls):
        call = call_at(calls, at)
        answer = answer_to(link, call)
        given.append(len(answer))
        given.extend(answer)
        at = call.behind
    return given

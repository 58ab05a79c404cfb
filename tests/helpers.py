"""What the tests share: lines of calls, and a lone side with segments made by hand for it."""

from twosidesyard import calls
from twosidesyard.link import Link, answer_to, answers, call_at
from twosidesyard.side import Side

BEGIN, END, ACKED, RESET = 1, 2, 4, 8
TIME_END = 2 ** 62
LEFT, LEFT_PORT = 167772161, 1024
RIGHT, RIGHT_PORT = 167772162, 7

TOLD = (
    "phase why written unacked first next top room wide slow wait wanted unread edge pieces ended"
).split()


def meet(base, base_right, now):
    return [1, base, base_right, now]


def write(side, now, data):
    return [2, side, now, len(data)] + list(data)


def read(side, now, most):
    return [3, side, now, most]


def close(side, now):
    return [4, side, now]


def reset(side, now):
    return [5, side, now]


def tick(side, now):
    return [6, side, now]


def keep(side, now, time):
    return [7, side, now, time]


def due(side):
    return [8, side]


def told(side):
    return [9, side]


def sent(i):
    return [10, i]


def bring(i, now):
    return [11, i, now]


def damage(i, now, place, byte):
    return [12, i, now, place, byte]


def cut(i, now, n):
    return [13, i, now, n]


def rush(now):
    return [14, now]


def ask(*line):
    """The answers to calls, one list each."""
    given = answers([number for call in line for number in call])
    each = []
    while given:
        each.append(given[1:1 + given[0]])
        given = given[1 + given[0]:]
    assert len(each) == len(line)
    return each


def last(*line):
    return ask(*line)[-1]


def told_of(side, names, *line):
    """What a side tells behind a line of calls, of the numbers with these names."""
    answer = last(*line, told(side))
    assert len(answer) == 18 and answer[0] == 0, answer
    by_name = dict(zip(TOLD, answer[1:]))
    return [by_name[name] for name in names.split()]


def on_the_link(*line):
    """Behind a line of calls all that's on the link: by which side, whether it came, its bytes."""
    count = last(*line, told(0))[-1]
    given = ask(*line, *[sent(i) for i in range(count)])[len(line):]
    assert all(one[0] == 0 and one[3] == len(one[4:]) for one in given)
    return [(one[1], one[2], one[4:]) for one in given]


def segments(*line):
    """The segments on the link behind a line of calls, by name, with the side that sent them."""
    each = []
    for sender, came, octets in on_the_link(*line):
        each.append(dict(decode(octets), sender=sender, came=came))
    return each


def stuff(size, start=0):
    """Bytes that differ from place to place."""
    return [(start + k) * 37 % 251 for k in range(size)]


def checksum(octets, sender, receiver):
    covered = sender.to_bytes(4, "big") + receiver.to_bytes(4, "big") + bytes([0, 3])
    covered += len(octets).to_bytes(2, "big") + bytes(octets[:16]) + bytes(2) + bytes(octets[18:])
    if len(covered) % 2:
        covered += bytes(1)
    total = 0
    for k in range(0, len(covered), 2):
        total += int.from_bytes(covered[k:k + 2], "big")
        if total > 65535:
            total -= 65535
    return 65535 - total or 65535


def sealed(octets, sender, receiver):
    """The bytes with their sum where it stands."""
    value = checksum(octets, sender, receiver)
    return octets[:16] + [value // 256, value % 256] + octets[18:]


def encode(ports, number, acked, flags, window, ranges, data, sender, receiver):
    head = ports[0].to_bytes(2, "big") + ports[1].to_bytes(2, "big")
    head += (number % 2 ** 32).to_bytes(4, "big") + (acked % 2 ** 32).to_bytes(4, "big")
    head += bytes([flags, len(ranges)]) + window.to_bytes(2, "big") + bytes(4)
    for pair in ranges:
        head += (pair[0] % 2 ** 32).to_bytes(4, "big") + (pair[1] % 2 ** 32).to_bytes(4, "big")
    return sealed(list(head) + list(data), sender, receiver)


def decode(octets):
    """What stands in a segment's bytes, by name."""
    def number(at, size):
        return int.from_bytes(bytes(octets[at:at + size]), "big")
    behind = 20 + 8 * octets[13]
    return {
        "from": number(0, 2), "to": number(2, 2), "number": number(4, 4), "acked": number(8, 4),
        "flags": octets[12], "window": number(14, 2), "sum": number(16, 2), "zero": number(18, 2),
        "ranges": [(number(k, 4), number(k + 4, 4)) for k in range(20, behind, 8)],
        "data": octets[behind:],
    }


class Running:
    """A line of calls that goes on call by call, so that the next one can hang on what was answered."""

    def __init__(self):
        self.link = Link()

    def ask(self, call):
        return answer_to(self.link, call_at(call, 0))

    def told(self, side, name):
        return dict(zip(TOLD, self.ask(told(side))[1:]))[name]


class Lone:
    """The left side, opened at time 0, and what the other one sends it, made by hand."""

    def __init__(self, base=1000, other=5000):
        self.side = Side()
        self.base = base
        self.other = other
        self.now = 0
        calls.open_side(self.side, LEFT, LEFT_PORT, RIGHT, RIGHT_PORT, base, 0)
        self.begin = self.said()[0]

    def said(self):
        """What it said is to be sent since last asked; its numbers as places."""
        each = [decode(octets) for octets in self.side.outbox]
        self.side.outbox = []
        for segment in each:
            segment["place"] = (segment["number"] - self.base) % 2 ** 32
            segment["wanted"] = (segment["acked"] - self.other) % 2 ** 32
        return each

    def octets(self, place=1, acked=1, flags=0, window=1024, ranges=(), data=()):
        """A segment of the other side's, its places as numbers; acked None: it doesn't ack."""
        if acked is not None:
            flags |= ACKED
        acked_number = 0 if acked is None else self.base + acked
        pairs = [(self.base + start, self.base + stop) for start, stop in ranges]
        ports = (RIGHT_PORT, LEFT_PORT)
        return encode(ports, self.other + place, acked_number, flags, window, pairs, data, RIGHT, LEFT)

    def feed(self, now=None, **what):
        if now is not None:
            self.now = now
        answer = calls.came(self.side, RIGHT, self.now, self.octets(**what))
        assert answer == [0], answer
        return self.said()

    def become_open(self, now=0, window=1024):
        said = self.feed(now, place=0, flags=BEGIN, window=window)
        assert self.told("phase") == 4
        return said

    def call(self, name, now, *rest):
        """A call of the side's own: what it answers, and what was said."""
        self.now = now
        answer = getattr(calls, name)(self.side, now, *rest)
        return answer, self.said()

    def write(self, data, now=None):
        return self.call("write", self.now if now is None else now, list(data))[1]

    def tick(self, now):
        return self.call("tick", now)[1]

    def told(self, name):
        return dict(zip(TOLD, calls.told(self.side)[1:]))[name]

    def due(self):
        answer = calls.due(self.side)
        return answer[1] if answer[0] == 1 else None


def opened(now=0, window=1024, base=1000, other=5000):
    lone = Lone(base, other)
    lone.become_open(now, window)
    return lone


def sizes(said):
    return [len(segment["data"]) for segment in said]


def places(said):
    return [segment["place"] for segment in said]

"""Segments: what they hold, how they stand in bytes, and the sum that guards these."""

BEGIN = 1
END = 2
ACKED = 4
RESET = 8
MOST_DATA = 1400
MOST_RANGES = 4
HEAD_SIZE = 20
RANGE_SIZE = 8


class Segment:
    """What one segment says; its ranges are pairs of numbers."""

    def __init__(self, from_port, to_port, number, acked, flags, window, ranges, data):
        self.from_port = from_port
        self.to_port = to_port
        self.number = number
        self.acked = acked
        self.flags = flags
        self.window = window
        self.ranges = ranges
        self.data = data


def has(segment, flag):
    return segment.flags & flag != 0


def places_of(segment):
    """How many places it takes: begin and end have one each."""
    places = len(segment.data)
    if has(segment, BEGIN):
        places += 1
    if has(segment, END):
        places += 1
    return places


def in_bytes(value, size):
    octets = []
    for k in range(size):
        octets.append((value >> (8 * (size - 1 - k))) % 256)
    return octets


def number_at(octets, at, size):
    value = 0
    for octet in octets[at:at + size]:
        value = value * 256 + octet
    return value


def sum_of(octets, sender, receiver):
    """The sum over a segment's bytes, in which its own sum stands as 0."""
    covered = in_bytes(sender, 4) + in_bytes(receiver, 4) + in_bytes(3, 2) + in_bytes(len(octets), 2) + octets
    total = 256 * sum(covered[0::2]) + sum(covered[1::2])
    while total > 65535:
        total = total % 65536 + total // 65536
    if total == 65535:
        return 65535
    return 65535 - total


def segment_bytes(segment, sender, receiver):
    front = in_bytes(segment.from_port, 2) + in_bytes(segment.to_port, 2)
    front += in_bytes(segment.number, 4) + in_bytes(segment.acked, 4)
    front += [segment.flags, len(segment.ranges)] + in_bytes(segment.window, 2)
    back = [0, 0]
    for pair in segment.ranges:
        back += in_bytes(pair[0], 4) + in_bytes(pair[1], 4)
    back += segment.data
    return front + in_bytes(sum_of(front + [0, 0] + back, sender, receiver), 2) + back


def well_formed(octets):
    if len(octets) < HEAD_SIZE:
        return False
    if octets[12] > BEGIN + END + ACKED + RESET or octets[13] > MOST_RANGES:
        return False
    if number_at(octets, 18, 2) != 0:
        return False
    data_size = len(octets) - HEAD_SIZE - RANGE_SIZE * octets[13]
    return 0 <= data_size <= MOST_DATA


def ranges_in(octets):
    ranges = []
    for k in range(octets[13]):
        at = HEAD_SIZE + RANGE_SIZE * k
        ranges.append((number_at(octets, at, 4), number_at(octets, at + 4, 4)))
    return ranges


def read_segment(octets, sender, receiver):
    """The segment that these bytes are between these addresses, or None."""
    if not well_formed(octets):
        return None
    if number_at(octets, 16, 2) != sum_of(octets[:16] + [0, 0] + octets[18:], sender, receiver):
        return None
    ranges = ranges_in(octets)
    return Segment(
        number_at(octets, 0, 2),
        number_at(octets, 2, 2),
        number_at(octets, 4, 4),
        number_at(octets, 8, 4),
        octets[12],
        number_at(octets, 14, 2),
        ranges,
        octets[HEAD_SIZE + RANGE_SIZE * len(ranges):],
    )

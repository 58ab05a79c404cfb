"""One side of a stream: what it keeps, and the numbers of its places."""

NUMBERS = 4294967296
HALF_OF_NUMBERS = 2147483648
SPACE = 65536
ROOM_UNIT = 64
EDGE_STEP = 1400


class Sending:
    """What is sent: bytes written and not acked, and how far they went."""

    def __init__(self):
        self.unacked = []
        self.written = 0
        self.closing = False
        self.first = 0
        self.next_place = 0
        self.top = 0
        self.room = 0
        self.held = []
        self.wide = 5600
        self.slow = 1048576
        self.same = 0
        self.mending = None
        self.anew = 0


class Pace:
    """Times in milliseconds; mean is kept eight times as great, off four times."""

    def __init__(self):
        self.measured = False
        self.mean = 0
        self.off = 0
        self.wait = 1000
        self.timed = None
        self.timed_since = 0
        self.due = None
        self.tries = 0
        self.lingers_until = 0
        self.kept_up = 0
        self.heard = 0
        self.askings = 0


class Coming:
    """What has come from the other side, and what's owed for it."""

    def __init__(self):
        self.wanted = 0
        self.unread = []
        self.pieces = []
        self.end_place = None
        self.ended = False
        self.closing_before_end = False
        self.edge = 0
        self.owed = 0
        self.owed_due = 0


class Side:
    """A side in phase 0; what it says is to be sent goes into its outbox."""

    def __init__(self):
        self.now = 0
        self.outbox = []
        renew(self, 0, 0, 0)


def renew(side, me, mine, base):
    """Makes it a new side; its time stays, for that never goes back."""
    side.phase = 0
    side.why = 0
    side.me = me
    side.mine = mine
    side.base = base
    side.them = 0
    side.theirs = 0
    side.other_base = 0
    side.sending = Sending()
    side.pace = Pace()
    side.coming = Coming()


def end_side(side, why):
    side.phase = 6
    side.why = why
    side.pace.due = None
    side.pace.timed = None
    side.coming.owed = 0


def hear(side):
    side.pace.heard = side.now
    side.pace.askings = 0


def due_after_wait(side):
    side.pace.due = side.now + side.pace.wait


def set_timed(side, place):
    side.pace.timed = place
    side.pace.timed_since = side.now


def is_talking(side):
    """Whether it knows the other's numbers and isn't over: phases 3 to 5."""
    return 3 <= side.phase <= 5


def last_place(sending):
    """The end's place: behind the last byte written."""
    return 1 + sending.written


def edge_to_tell(coming):
    """The edge, or the new one if that's far enough above it to be told."""
    edge = coming.wanted + ROOM_UNIT * ((SPACE - len(coming.unread)) // ROOM_UNIT)
    if edge - coming.edge >= EDGE_STEP:
        return edge
    return coming.edge


def number_of(base, place):
    return (base + place) % NUMBERS


def place_near(base, number, near):
    """The place with that number that's nearest to a place; None if it's below 0."""
    ahead = (number - base - near) % NUMBERS
    if ahead >= HALF_OF_NUMBERS:
        ahead -= NUMBERS
    if near + ahead < 0:
        return None
    return near + ahead

"""Time: what a side does by itself as time goes on."""

from twosidesyard.acking import double_wait, halve_slow
from twosidesyard.segment import MOST_DATA
from twosidesyard.sending import say, say_ack, say_begin, send_all, send_one
from twosidesyard.side import due_after_wait, end_side, is_talking, last_place

BEGIN_TRIES = 5
TRIES = 8
ASKINGS = 5
ASKING_STEP = 10000


def go_on(side, now):
    side.now = max(side.now, now)
    if side.phase == 5 and side.now >= side.pace.lingers_until:
        end_side(side, 1)
    if is_talking(side) and side.coming.owed > 0 and side.now >= side.coming.owed_due:
        say_ack(side)
    if side.pace.due is not None and side.now >= side.pace.due:
        do_due(side)
    if may_ask(side) and side.now >= asking_time(side):
        ask(side)


def do_due(side):
    sending = side.sending
    if side.phase == 2 or side.phase == 3:
        begin_again(side)
    elif side.phase == 4 and sending.first < sending.top:
        send_again(side)
    elif side.phase == 4 and sending.next_place < last_place(sending):
        send_one(side)
        wait_longer(side)
    else:
        side.pace.due = None


def wait_longer(side):
    double_wait(side)
    due_after_wait(side)


def begin_again(side):
    if side.pace.tries == BEGIN_TRIES:
        end_side(side, 3)
        return
    say_begin(side)
    side.pace.tries += 1
    side.pace.timed = None
    wait_longer(side)


def send_again(side):
    if side.pace.tries == TRIES:
        end_side(side, 3)
        return
    sending = side.sending
    halve_slow(sending)
    sending.wide = MOST_DATA
    sending.next_place = sending.first
    sending.held = []
    sending.mending = None
    sending.same = 0
    sending.anew = 0
    side.pace.timed = None
    side.pace.tries += 1
    wait_longer(side)
    any_sent = send_all(side)
    if not any_sent and sending.next_place < last_place(sending):
        send_one(side)


def may_ask(side):
    """Whether it's kept up, with nothing on its way that would be answered anyway."""
    return side.pace.kept_up > 0 and side.phase == 4 and side.sending.first == side.sending.top


def asking_time(side):
    pace = side.pace
    return pace.heard + pace.kept_up + ASKING_STEP * pace.askings


def ask(side):
    if side.pace.askings == ASKINGS:
        end_side(side, 3)
        return
    # A place that has come already doesn't fit, so it's answered with an ack.
    say(side, side.sending.top - 1, 0, [])
    side.pace.askings += 1

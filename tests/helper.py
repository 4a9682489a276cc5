"""Builds calls, asks the desk, and looks into a router."""

from bylabels.desk import answers
from bylabels.router import Router

FULL = 256


def begin():
    return [0]


def way(f, to):
    return [1, f, to]


def line(p, up):
    return [2, p, up]


def take(p, frame):
    return [3, p, len(frame)] + list(frame)


def enter(f, payload):
    return [4, f, len(payload)] + list(payload)


def take_frame(p, most=65536):
    return [5, p, most]


def take_gone(most=65536):
    return [6, most]


def look(what, f, p):
    return [7, what, f, p]


def look_active(f):
    return look(0, f, 0)


def look_heard(f, p):
    return look(1, f, p)


def look_waiting(p):
    return look(2, 0, p)


def look_labels():
    return look(3, 0, 0)


def given(end, label):
    return [0, 1, end, label // 256, label % 256]


def taken_back(end, label):
    return [0, 2, end, label // 256, label % 256]


def let_go(end, label):
    return [0, 3, end, label // 256, label % 256]


def packet(steps, label, payload):
    return [1, steps, label // 256, label % 256] + list(payload)


def flat(calls):
    return [number for call in calls for number in call]


def same(told, asked):
    """For long lists: assertEqual takes minutes to print where two of these differ."""
    return told == asked


def is_handed_in(calls):
    """Whether the list of calls is within what the document says of such lists."""
    mosts = [call[-1] for call in calls if call[0] in (5, 6) and call[-1] <= 65536]
    if calls[0] != [0] or len(calls) > 4200 or len(flat(calls)) > 30000:
        return False
    return sum(min(most, 1600) for most in mosts) <= 900000


def replies(calls):
    """What each call answers: a list of its numbers."""
    assert is_handed_in(calls)
    told = answers(flat(calls))
    each = []
    place = 0
    while place < len(told):
        size = told[place]
        each.append(told[place + 1:place + 1 + size])
        assert len(each[-1]) == size, told
        place += 1 + size
    assert len(each) == len(calls), told
    return each


def ask_behind(calls, more):
    """The number that each one of more answers after the calls; each of these answers is one number long."""
    told = replies(calls + more)[len(calls):]
    assert all(len(reply) == 1 for reply in told), told
    return [reply[0] for reply in told]


def ask(calls):
    return ask_behind([], calls)


def last(calls):
    return ask_behind(calls[:-1], calls[-1:])[0]


def taken_away(calls, call, count):
    """What that call takes away after the calls, until nothing waits; at most count are there."""
    taken = []
    for reply in replies(calls + [call] * (count + 1))[len(calls):]:
        if reply == [-1]:
            return taken
        assert reply[0] == len(reply) - 1, reply
        taken.append(reply[1:])
    raise AssertionError(f"more than {count} wait")


def frames(calls, p):
    """The frames that wait on line p after the calls, the first one first."""
    count = last(calls + [look_waiting(p)])
    taken = taken_away(calls, take_frame(p), count)
    assert len(taken) == count, (len(taken), count)
    return taken


def packets_gone(calls):
    """The packets that leave here after the calls, the first one first."""
    return taken_away(calls, take_gone(), 64)


def waiting(calls, p):
    """How many frames wait on line p after the calls, or None if it's down."""
    count, up = ask_behind(calls, [look_waiting(p), take(p, [9])])
    assert (count, up) == (0, -1) or up == -3, (count, up)
    return None if up == -1 else count


def fill(p, count=FULL):
    """Calls that each put one message on line p."""
    return [take(p, taken_back(31, 65535))] * count


def router_with(up=(), ways=()):
    """A router whose lines were brought up first, then its ways set, and what was said by then drained."""
    router = Router()
    for p in up:
        router.lr_line(p, 1)
    for f, to in ways:
        router.lr_way(f, to)
    drain(router)
    return router


def drain(router):
    for one in router.lines:
        one.waiting = []


def record_saying(router):
    """A list that gets each line and frame that the router says from now on, in their order."""
    said = []
    router_say = router.say

    def say(p, frame):
        said.append((p, frame))
        router_say(p, frame)

    router.say = say
    return said


def queues(router):
    return [one.waiting for one in router.lines]


def labels(router):
    """Number to (end, active, holders), in the order in which the labels were made."""
    return {label.number: (label.end, label.active, label.holders) for label in router.book.given.values()}


def fill_line(router, p, size=FULL):
    router.lines[p].waiting = [[9, at] for at in range(size)]


def state(router):
    """All that a router keeps, as a copy."""
    return (
        list(router.ways),
        [(number, end, active, list(holders)) for number, (end, active, holders) in labels(router).items()],
        [(one.up, dict(one.heard), [list(frame) for frame in one.waiting]) for one in router.lines],
        [list(frame) for frame in router.leaving],
    )

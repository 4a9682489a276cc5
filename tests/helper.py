"""Builds calls, asks the desk, and counts what waits on a line by filling it up."""

from bylabels.desk import answers
from bylabels.router import Router

FULL = 256


def begin():
    return [0]


def way(f, to):
    return [1, f, to]


def line(p, up):
    return [2, p, up]


def take(p, frame):
    return [3, p, len(frame)] + list(frame)


def given(end, label):
    return [0, 1, end, label // 256, label % 256]


def taken_back(end, label):
    return [0, 2, end, label // 256, label % 256]


def let_go(end, label):
    return [0, 3, end, label // 256, label % 256]


def packet(steps, label, payload):
    return [1, steps, label // 256, label % 256] + list(payload)


def flat(calls):
    return [number for call in calls for number in call]


def ask(calls):
    """The number that each call answers; every answer of these calls is one number long."""
    told = answers(flat(calls))
    sizes, numbers = told[0::2], told[1::2]
    assert len(told) == 2 * len(calls) and all(size == 1 for size in sizes), told
    return numbers


def last(calls):
    return ask(calls)[-1]


def waiting(calls, p):
    """How many frames wait on line p after the calls, or None if it's down.

    Each taken-back message puts one more frame on the line; the one that finds it full
    brings it down, and the next one is refused.
    """
    fill = [take(p, taken_back(31, 65535))] * (FULL + 2)
    numbers = ask(calls + fill)[len(calls):]
    done = numbers.index(-1)
    assert all(number == 0 for number in numbers[:done]), numbers
    return None if done == 0 else FULL + 1 - done


def router_with(up=(), ways=()):
    """A router whose lines were brought up first, then its ways set, and what was said by then drained."""
    router = Router()
    for p in up:
        router.lr_line(p, 1)
    for f, to in ways:
        router.lr_way(f, to)
    drain(router)
    return router


def drain(router):
    for one in router.lines:
        one.waiting = []


def record_saying(router):
    """A list that gets each line and frame that the router says from now on, in their order."""
    said = []
    router_say = router.say

    def say(p, frame):
        said.append((p, frame))
        router_say(p, frame)

    router.say = say
    return said


def queues(router):
    return [one.waiting for one in router.lines]


def labels(router):
    """Number to (end, active, holders), in the order in which the labels were made."""
    return {label.number: (label.end, label.active, label.holders) for label in router.book.given.values()}


def fill_line(router, p, size=FULL):
    router.lines[p].waiting = [[9, at] for at in range(size)]


def state(router):
    """All that a router keeps, as a copy."""
    return (
        list(router.ways),
        [(number, end, active, list(holders)) for number, (end, active, holders) in labels(router).items()],
        [(one.up, dict(one.heard), [list(frame) for frame in one.waiting]) for one in router.lines],
        [list(frame) for frame in router.leaving],
    )

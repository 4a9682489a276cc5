"""The desk: a list of calls goes in, the list of their answers comes out."""

from bylabels.reader import Reader
from bylabels.router import Router

BEGIN = 0
WAY = 1
LINE = 2
TAKE = 3
ENTER = 4
NEXT = 5
GONE = 6
LOOK = 7


class UnknownCall(ValueError):
    pass


def ask_way(router, reader):
    f = reader.read_number()
    to = reader.read_number()
    return [router.lr_way(f, to)]


def ask_line(router, reader):
    p = reader.read_number()
    up = reader.read_number()
    return [router.lr_line(p, up)]


def ask_take(router, reader):
    p = reader.read_number()
    frame = reader.read_row()
    return [router.lr_take(p, frame)]


def ask_enter(router, reader):
    f = reader.read_number()
    payload = reader.read_row()
    return [router.lr_enter(f, payload)]


def ask_next(router, reader):
    p = reader.read_number()
    most = reader.read_number()
    return router.lr_next(p, most)


def ask_gone(router, reader):
    most = reader.read_number()
    return router.lr_gone(most)


def ask_look(router, reader):
    what = reader.read_number()
    f = reader.read_number()
    p = reader.read_number()
    return [router.lr_look(what, f, p)]


def answer_one(router, reader):
    call = reader.read_number()
    if call == BEGIN:
        return [router.lr_begin()]
    if call == WAY:
        return ask_way(router, reader)
    if call == LINE:
        return ask_line(router, reader)
    if call == TAKE:
        return ask_take(router, reader)
    if call == ENTER:
        return ask_enter(router, reader)
    if call == NEXT:
        return ask_next(router, reader)
    if call == GONE:
        return ask_gone(router, reader)
    if call == LOOK:
        return ask_look(router, reader)
    raise UnknownCall(f"no call has the number {call}")


def answers(calls):
    reader = Reader(calls)
    router = Router()
    told = []
    while reader.has_more():
        answer = answer_one(router, reader)
        told.append(len(answer))
        told.extend(answer)
    return told

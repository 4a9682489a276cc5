"""The router: its ways, its lines, the labels it gave, and the packets that leave here."""

from bylabels.frames import GIVEN, LET_GO, PACKET_HEAD, TAKEN_BACK
from bylabels.frames import is_message, is_packet, message_frame, message_label, packet_frame, packet_label
from bylabels.labels import LabelBook
from bylabels.lines import Line
from bylabels.sizes import ENDS, HERE, LINES, LONGEST_FRAME, LONGEST_PAYLOAD
from bylabels.sizes import GREATEST_MOST, MOST_LEAVING, NO_WAY, STEPS_AT_FIRST

DONE = 0
NOT_NOW = -1
OUT_OF_RANGE = -2
NO_SUCH_FRAME = -3
TOO_LONG = -5

ACTIVE_LABEL = 0
HEARD_LABEL = 1
FRAMES_WAITING = 2
LABELS_GIVEN = 3

NO_LABEL = -1


def is_line(p):
    return 0 <= p < LINES


def is_end(f):
    return 0 <= f < ENDS


def is_look(what):
    return ACTIVE_LABEL <= what <= LABELS_GIVEN


# The answer is a list, as only here more than one number is answered.
def take_first(waiting, most):
    if len(waiting) == 0:
        return [NOT_NOW]
    if len(waiting[0]) > most:
        return [TOO_LONG]
    first = waiting.pop(0)
    return [len(first)] + first


class Router:
    def __init__(self):
        self.lr_begin()

    def lr_begin(self):
        self.ways = [NO_WAY] * ENDS
        self.book = LabelBook()
        self.lines = [Line() for p in range(LINES)]
        self.leaving = []
        return DONE

    def lr_way(self, f, to):
        if not is_end(f) or not NO_WAY <= to <= HERE:
            return OUT_OF_RANGE
        before = self.ways[f]
        if before == NO_WAY and to != NO_WAY:
            number = self.book.least_free()
            if number is None:
                return NOT_NOW
            self.give_everywhere(self.book.make(number, f))
        if before != NO_WAY and to == NO_WAY:
            self.take_back_everywhere(self.book.active_for(f))
        self.ways[f] = to
        return DONE

    def lr_line(self, p, up):
        if not is_line(p):
            return OUT_OF_RANGE
        self.go_down(p)
        if up != 0:
            self.lines[p].rise()
            for label in self.book.all_active():
                self.give(label, p)
        return DONE

    def lr_take(self, p, frame):
        if not is_line(p) or not 1 <= len(frame) <= LONGEST_FRAME:
            return OUT_OF_RANGE
        if not self.lines[p].up:
            return NOT_NOW
        if is_message(frame):
            self.take_message(p, frame[1], frame[2], message_label(frame))
        elif is_packet(frame):
            self.take_packet(frame[1], packet_label(frame), frame[PACKET_HEAD:])
        else:
            return NO_SUCH_FRAME
        return DONE

    def lr_enter(self, f, payload):
        if not is_end(f) or not 1 <= len(payload) <= LONGEST_PAYLOAD:
            return OUT_OF_RANGE
        self.go_on(f, STEPS_AT_FIRST, payload)
        return DONE

    def lr_next(self, p, most):
        if not is_line(p) or most > GREATEST_MOST:
            return [OUT_OF_RANGE]
        return take_first(self.lines[p].waiting, most)

    def lr_gone(self, most):
        if most > GREATEST_MOST:
            return [OUT_OF_RANGE]
        return take_first(self.leaving, most)

    # Each number is asked for its range, also where that look has no use for it.
    def lr_look(self, what, f, p):
        if not is_look(what) or not is_end(f) or not is_line(p):
            return OUT_OF_RANGE
        if what == ACTIVE_LABEL:
            return self.active_number(f)
        if what == HEARD_LABEL:
            return self.lines[p].heard.get(f, NO_LABEL)
        if what == FRAMES_WAITING:
            return len(self.lines[p].waiting)
        return len(self.book.given)

    def active_number(self, f):
        label = self.book.active_for(f)
        return NO_LABEL if label is None else label.number

    def take_message(self, p, what, end, number):
        if what == GIVEN:
            self.lines[p].hear(end, number)
        elif what == TAKEN_BACK:
            self.lines[p].unhear(end, number)
            self.say(p, message_frame(LET_GO, end, number))
        else:
            self.let_go(p, end, number)

    def let_go(self, p, end, number):
        label = self.book.label_at(number)
        if label is not None and label.end == end and not label.active:
            self.book.drop_holder(label, p)

    def take_packet(self, steps, number, payload):
        label = self.book.label_at(number)
        if label is not None and label.active:
            self.go_on(label.end, steps, payload)

    def go_on(self, end, steps, payload):
        way = self.ways[end]
        if way == HERE:
            self.leave(end, payload)
        elif way != NO_WAY:
            self.send_on(self.lines[way], end, steps, payload)

    def leave(self, end, payload):
        if len(self.leaving) < MOST_LEAVING:
            self.leaving.append([end] + payload)

    def send_on(self, line, end, steps, payload):
        if end in line.heard and steps > 1 and line.has_room_for_packet():
            line.waiting.append(packet_frame(steps - 1, line.heard[end], payload))

    def go_down(self, p):
        self.lines[p].fall()
        self.book.drop_holder_everywhere(p)

    def say(self, p, frame):
        line = self.lines[p]
        if not line.up:
            return
        if line.is_full():
            self.go_down(p)
        else:
            line.waiting.append(frame)

    # The line holds the label ahead of the saying: where the line goes down by it, it holds none again.
    def give(self, label, p):
        if self.lines[p].up:
            label.holders.append(p)
            self.say(p, message_frame(GIVEN, label.end, label.number))

    def give_everywhere(self, label):
        for p in range(LINES):
            self.give(label, p)

    # Saying may bring a line down and so change the holders: those of the beginning are walked.
    def take_back_everywhere(self, label):
        holders = list(label.holders)
        self.book.take_back(label)
        for p in holders:
            self.say(p, message_frame(TAKEN_BACK, label.end, label.number))

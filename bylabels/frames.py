"""The form of what goes over a line: messages about labels, and packets."""

from bylabels.sizes import ENDS, FIRST_LABEL

MESSAGE = 0
PACKET = 1

GIVEN = 1
TAKEN_BACK = 2
LET_GO = 3

MESSAGE_SIZE = 5
PACKET_HEAD = 4


def message_frame(what, end, number):
    return [MESSAGE, what, end, number // 256, number % 256]


def packet_frame(steps, number, payload):
    return [PACKET, steps, number // 256, number % 256] + payload


def message_label(frame):
    return frame[3] * 256 + frame[4]


def packet_label(frame):
    return frame[2] * 256 + frame[3]


# A neighbour may give labels above this router's own greatest one,
# so only the least label is asked for here.
def is_message(frame):
    if len(frame) != MESSAGE_SIZE or frame[0] != MESSAGE:
        return False
    return GIVEN <= frame[1] <= LET_GO and frame[2] < ENDS and message_label(frame) >= FIRST_LABEL


# A packet's label is not asked for: one that isn't active here, however low, makes it lost, not refused.
def is_packet(frame):
    return len(frame) > PACKET_HEAD and frame[0] == PACKET

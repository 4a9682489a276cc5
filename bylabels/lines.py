"""A line to a neighbour: whether it's up, what was heard there, and what waits there."""

from bylabels.sizes import MOST_FRAMES, MOST_FRAMES_FOR_A_PACKET


class Line:
    def __init__(self):
        self.up = False
        self.heard = {}
        self.waiting = []

    def rise(self):
        self.up = True

    def fall(self):
        self.up = False
        self.heard = {}
        self.waiting = []

    def is_full(self):
        return len(self.waiting) >= MOST_FRAMES

    # Packets stop earlier than messages do, so that messages keep room of their own.
    def has_room_for_packet(self):
        return self.up and len(self.waiting) < MOST_FRAMES_FOR_A_PACKET

    def hear(self, end, number):
        self.heard[end] = number

    # A label that was replaced meanwhile may be taken back late: what's heard now then stays.
    def unhear(self, end, number):
        if self.heard.get(end) == number:
            self.heard.pop(end)

"""The labels that this router gave, and the lines on which somebody may have them."""

from bylabels.sizes import FIRST_LABEL, LAST_LABEL


class Label:
    def __init__(self, number, end):
        self.number = number
        self.end = end
        self.active = True
        self.holders = []


class LabelBook:
    # The dict keeps the order in which labels were made: one that was free is put in anew, at the back.
    def __init__(self):
        self.given = {}

    # Answers None where no label is free.
    def least_free(self):
        for number in range(FIRST_LABEL, LAST_LABEL + 1):
            if number not in self.given:
                return number
        return None

    def make(self, number, end):
        label = Label(number, end)
        self.given[number] = label
        return label

    def label_at(self, number):
        return self.given.get(number)

    def all_active(self):
        return [label for label in self.given.values() if label.active]

    def active_for(self, end):
        for label in self.all_active():
            if label.end == end:
                return label
        return None

    def take_back(self, label):
        label.active = False
        self.free_if_unheld(label)

    def drop_holder(self, label, p):
        if p in label.holders:
            label.holders.remove(p)
        self.free_if_unheld(label)

    def drop_holder_everywhere(self, p):
        for label in list(self.given.values()):
            self.drop_holder(label, p)

    def free_if_unheld(self, label):
        if not label.active and len(label.holders) == 0:
            self.given.pop(label.number)

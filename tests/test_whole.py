"""The whole program: long lists of calls of all eight kinds beside a plain model, and routers in a row."""

import random
import unittest

from bylabels.desk import answers
from helper import (
    begin, enter, flat, frames, line, look, look_heard, packets_gone, replies, same, take, take_frame, take_gone, way,
)


class Model:
    """The document's words, one by one and in another form than the program's."""

    def begin(self):
        self.way = {}
        self.labels = []
        self.up = set()
        self.heard = {}
        self.queues = {p: [] for p in range(8)}
        self.leaving = []
        return [0]

    def sweep(self):
        self.labels = [label for label in self.labels if label["active"] or label["holders"]]

    def down(self, p):
        self.up.discard(p)
        self.queues[p] = []
        self.heard = {key: number for key, number in self.heard.items() if key[0] != p}
        for label in self.labels:
            label["holders"] = [q for q in label["holders"] if q != p]
        self.sweep()

    def say(self, p, what, end, number):
        if p in self.up and len(self.queues[p]) >= 256:
            self.down(p)
        elif p in self.up:
            self.queues[p].append([0, what, end] + list(number.to_bytes(2, "big")))

    def give(self, label, p):
        if p in self.up:
            label["holders"].append(p)
            self.say(p, 1, label["end"], label["number"])

    def active(self):
        return [label for label in self.labels if label["active"]]

    def set_way(self, f, to):
        if f not in range(32) or to not in range(-1, 9):
            return [-2]
        if f not in self.way and to >= 0:
            free = sorted(set(range(16, 1040)) - {label["number"] for label in self.labels})
            if not free:
                return [-1]
            self.labels.append({"number": free[0], "end": f, "active": True, "holders": []})
            for p in range(8):
                self.give(self.labels[-1], p)
        if f in self.way and to < 0:
            label = [label for label in self.active() if label["end"] == f][0]
            label["active"] = False
            for p in label["holders"]:
                self.say(p, 2, f, label["number"])
            self.sweep()
            del self.way[f]
        if to >= 0:
            self.way[f] = to
        return [0]

    def set_line(self, p, up):
        if p not in range(8):
            return [-2]
        self.down(p)
        if up:
            self.up.add(p)
            for label in self.active():
                self.give(label, p)
        return [0]

    def take(self, p, frame):
        if p not in range(8) or len(frame) not in range(1, 1505):
            return [-2]
        if p not in self.up:
            return [-1]
        if len(frame) >= 5 and frame[0] == 1:
            for label in self.active():
                if label["number"] == int.from_bytes(frame[2:4], "big"):
                    self.go_on(label["end"], frame[1], frame[4:])
            return [0]
        if len(frame) != 5 or frame[0] != 0:
            return [-3]
        what, end, number = frame[1], frame[2], int.from_bytes(frame[3:], "big")
        if end > 31 or number < 16 or what not in (1, 2, 3):
            return [-3]
        if what == 1:
            self.heard[p, end] = number
        if what == 2:
            if self.heard.get((p, end)) == number:
                del self.heard[p, end]
            self.say(p, 3, end, number)
        if what == 3:
            for label in self.labels:
                if (label["number"], label["end"], label["active"]) == (number, end, False):
                    label["holders"] = [q for q in label["holders"] if q != p]
            self.sweep()
        return [0]

    def go_on(self, end, steps, payload):
        way = self.way.get(end)
        if way == 8 and len(self.leaving) < 64:
            self.leaving.append([end] + payload)
        elif way in self.up and (way, end) in self.heard and steps > 1 and len(self.queues[way]) < 128:
            number = self.heard[way, end]
            self.queues[way].append([1, steps - 1] + list(number.to_bytes(2, "big")) + payload)

    def enter(self, f, payload):
        if f not in range(32) or len(payload) not in range(1, 1501):
            return [-2]
        self.go_on(f, 64, payload)
        return [0]

    def hand_out(self, queue, most):
        if not queue:
            return [-1]
        if len(queue[0]) > most:
            return [-5]
        first = queue.pop(0)
        return [len(first)] + first

    def next(self, p, most):
        if p not in range(8) or most > 65536:
            return [-2]
        return self.hand_out(self.queues[p], most)

    def gone(self, most):
        return [-2] if most > 65536 else self.hand_out(self.leaving, most)

    def look(self, what, f, p):
        if what not in range(4) or f not in range(32) or p not in range(8):
            return [-2]
        if what == 0:
            return ([label["number"] for label in self.active() if label["end"] == f] + [-1])[:1]
        return [[self.heard.get((p, f), -1), len(self.queues[p]), len(self.labels)][what - 1]]

    def answer(self, call):
        kinds = (self.begin, self.set_way, self.set_line, self.take, self.enter, self.next, self.gone, self.look)
        if call[0] in (3, 4):
            return kinds[call[0]](call[1], call[3:])
        return kinds[call[0]](*call[1:])


def any_frame(chance, ends):
    kind = chance.randrange(20)
    number = chance.choice((15, 16, 17, 17, 18, 19, 20, 21, 22, 24, 28, 36, 1039, 1040, 65535))
    high, low = number // 256, number % 256
    if kind == 0:
        return [chance.randrange(4) for turn in range(chance.randrange(8))]
    if kind < 13:
        return [0, chance.choice((0, 1, 1, 1, 2, 2, 3, 3, 3, 3, 4)), chance.choice(ends), high, low]
    return [1, chance.choice((0, 1, 2, 3, 64, 255)), high, low] + [7] * chance.randrange(4)


def any_call(chance, ends, lines):
    """Calls in which few ends and lines come back often, and here and there a number out of range."""
    f, p = chance.choice(ends), chance.choice(lines)
    most = chance.choice((0, 4, 5, 6, 7, 1504, 65536, 65536, 65536, 65537))
    kind = chance.randrange(100)
    if kind < 20:
        return way(f, chance.choice((-1, -1, -1, 8, 8, -2, 9) + tuple(lines)))
    if kind < 25:
        return line(p, chance.choice((0, 1, 1, 1, -5)))
    if kind < 55:
        return take(p, any_frame(chance, ends))
    if kind < 70:
        return enter(f, [chance.randrange(256) for turn in range(chance.randrange(4))])
    if kind < 80:
        return take_frame(p, most)
    if kind < 84:
        return take_gone(most)
    return look(chance.choice((0, 1, 2, 3, 3, 2, 1, 0, -1, 4)), f, p)


def any_calls(seed):
    chance = random.Random(seed)
    ends = chance.choice(((3, 4), (0, 31, 32), (1, 2, 3, 4, 5, 6), tuple(range(-1, 33))))
    lines = chance.choice(((2, 5), (0, 1, 2), (0, 7, 8, -1), tuple(range(8))))
    calls = [begin()] + [line(p, 1) for p in lines]
    for turn in range(chance.choice((200, 1000, 3000))):
        calls.append(any_call(chance, ends, lines))
        if chance.randrange(2000) == 0:
            calls.append(begin())
    return calls


class BesideTheModel(unittest.TestCase):
    def check(self, calls):
        model = Model()
        for at, (call, reply) in enumerate(zip(calls, replies(calls))):
            self.assertEqual(reply, model.answer(call), (at, call))

    def test_long_lists_of_all_eight_kinds(self):
        for seed in range(60):
            with self.subTest(seed=seed):
                self.check(any_calls(seed))

    def test_lines_that_are_seldom_emptied(self):
        for seed in range(8):
            chance = random.Random(seed)
            calls = [begin()] + [line(p, 1) for p in range(8)]
            for turn in range(3500):
                f, p = chance.randrange(3), chance.randrange(8)
                number = chance.randrange(16, 40)
                calls.append(chance.choice((
                    way(f, -1), way(f, 8), way(f, p), way(f, p), enter(f, [1]), take_frame(p), look(2, f, p),
                    look(3, f, p), look(0, f, p), take(p, [0, 1, f, 0, number]), take(p, [0, 2, f, 0, number]),
                    take(p, [0, 3, f, 0, number]), take(p, [1, 9, 0, number, 5]),
                )))
                if chance.randrange(200) == 0:
                    calls.append(line(p, 1))
            with self.subTest(seed=seed):
                self.check(calls)


class OneListAndAnother(unittest.TestCase):
    def test_what_was_handed_in_stays_as_it_was(self):
        for seed in range(10):
            calls = flat(any_calls(seed))
            before = list(calls)
            answers(calls)
            self.assertTrue(same(calls, before))

    def test_two_times_know_nothing_of_each_other(self):
        lists = [flat(any_calls(seed)) for seed in range(10)]
        told = [answers(calls) for calls in lists]
        self.assertTrue(same([answers(calls) for calls in reversed(lists)], told[::-1]))

    def test_changing_what_was_answered_changes_nothing(self):
        calls = flat(any_calls(4))
        told = answers(calls)
        kept = list(told)
        told.clear()
        self.assertTrue(same(answers(calls), kept))

    def test_begin_again_is_as_if_for_the_first_time(self):
        for seed in range(10):
            first, second = any_calls(seed), any_calls(seed + 10)
            first, second = first[:1000], second[:1000]
            self.assertTrue(same(replies(first + second), replies(first) + replies(second)))

    def test_all_are_whole_numbers(self):
        for seed in range(10):
            self.assertEqual({number.__class__ for number in answers(flat(any_calls(seed)))}, {int})

    def test_the_longest_lists(self):
        calls = [begin(), line(0, 1), way(3, 0), take(0, [0, 1, 3, 0, 99]), take_frame(0)]
        calls += [enter(3, [1]), take_frame(0, 6)] * 2097 + [look(2, 0, 0)]
        self.assertEqual(len(calls), 4200)
        told = replies(calls)
        self.assertTrue(same(told[4:], [[5, 0, 1, 3, 0, 16]] + [[0], [5, 1, 63, 0, 99, 1]] * 2097 + [[0]]))


class RoutersInARow(unittest.TestCase):
    """Three routers, the first one's line 1 to the second one's line 0, and so on; end 6 is at the third."""

    def setUp(self):
        self.lists = [
            [begin(), line(1, 1), way(6, 1)],
            [begin(), way(9, 8), line(0, 1), line(1, 1), way(6, 1)],
            [begin(), way(9, 8), way(8, 8), line(0, 1), way(6, 8)],
        ]
        self.carry_all()

    def carry(self, sender, p, receiver, q):
        """What waits on a line is taken away and comes at its other end."""
        carried = frames(self.lists[sender], p)
        self.lists[sender] = self.lists[sender] + [take_frame(p)] * len(carried)
        self.lists[receiver] = self.lists[receiver] + [take(q, frame) for frame in carried]
        return len(carried)

    def carry_all(self):
        moved = 1
        while moved:
            moved = self.carry(0, 1, 1, 0) + self.carry(1, 1, 2, 0)
            moved += self.carry(2, 0, 1, 1) + self.carry(1, 0, 0, 1)

    def add(self, at, call):
        self.lists[at] = self.lists[at] + [call]
        self.carry_all()

    def test_each_one_heard_the_label_of_the_next(self):
        self.assertEqual(replies(self.lists[0] + [look_heard(6, 1)])[-1], [17])
        self.assertEqual(replies(self.lists[1] + [look_heard(6, 1)])[-1], [18])

    def test_a_packet_goes_from_one_end_to_the_other(self):
        self.add(0, enter(6, [10, 20]))
        self.assertEqual([packets_gone(calls) for calls in self.lists], [[], [], [[6, 10, 20]]])

    def test_after_the_way_was_taken_away_and_set_again(self):
        self.add(2, way(6, -1))
        self.assertEqual(replies(self.lists[1] + [look_heard(6, 1)])[-1], [-1])
        self.add(0, enter(6, [1]))
        self.add(2, way(7, 8))
        self.assertEqual(replies(self.lists[2] + [look(0, 7, 0)])[-1], [18])
        self.add(2, way(6, 8))
        self.add(0, enter(6, [2]))
        self.assertEqual(packets_gone(self.lists[2]), [[6, 2]])

    def test_a_way_in_a_ring_ends(self):
        self.add(1, way(6, 0))
        self.add(0, enter(6, [1]))
        self.assertEqual([packets_gone(calls) for calls in self.lists], [[], [], []])
        taken = [reply for reply in replies(self.lists[0]) + replies(self.lists[1]) if reply[1:2] == [1]]
        self.assertEqual(sorted(reply[2] for reply in taken), list(range(1, 64)))


if __name__ == "__main__":
    unittest.main()

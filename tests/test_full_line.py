"""Where 256 frames wait on a line and something's said there, the line goes down."""

import unittest

from helper import (
    FULL, ask, begin, fill_line, given, labels, last, line, packet, queues, router_with, state, take, taken_back,
    waiting, way,
)


class FullLine(unittest.TestCase):
    def test_the_256th_frame_still_waits(self):
        router = router_with(up=[0])
        fill_line(router, 0, 255)
        router.say(0, [7])
        self.assertEqual((router.lines[0].up, len(router.lines[0].waiting)), (True, 256))
        self.assertEqual(router.lines[0].waiting[-1], [7])

    def test_the_257th_brings_it_down(self):
        router = router_with(up=[0])
        router.lr_take(0, given(3, 99))
        fill_line(router, 0)
        router.say(0, [7])
        gone = router.lines[0]
        self.assertEqual((gone.up, gone.heard, gone.waiting), (False, {}, []))

    def test_nothing_is_said_on_a_line_that_is_down(self):
        router = router_with()
        router.say(0, [7])
        self.assertEqual(router.lines[0].waiting, [])

    def test_by_a_label_given(self):
        router = router_with(up=[0, 3, 5], ways=[(0, 8)])
        fill_line(router, 3)
        self.assertEqual(router.lr_way(1, 8), 0)
        self.assertEqual([one.up for one in router.lines], [True, False, False, False, False, True, False, False])
        self.assertEqual(labels(router), {16: (0, True, [0, 5]), 17: (1, True, [0, 5])})
        said = [given(1, 17)]
        self.assertEqual(queues(router), [said, [], [], [], [], said, [], []])

    def test_by_a_label_given_on_the_only_line(self):
        router = router_with(up=[3])
        fill_line(router, 3)
        self.assertEqual(router.lr_way(1, 3), 0)
        self.assertEqual(labels(router), {16: (1, True, [])})
        self.assertEqual(router.ways[1], 3)

    def test_by_a_label_given_others_taken_back_become_free(self):
        router = router_with(up=[3], ways=[(0, 8), (0, -1), (1, 8)])
        fill_line(router, 3)
        self.assertEqual(router.lr_way(2, 8), 0)
        self.assertEqual(labels(router), {17: (1, True, []), 18: (2, True, [])})

    def test_by_a_label_taken_back(self):
        router = router_with(up=[0, 3, 5], ways=[(0, 8), (1, 8)])
        fill_line(router, 0)
        fill_line(router, 3)
        self.assertEqual(router.lr_way(1, -1), 0)
        self.assertEqual([one.up for one in router.lines], [False] * 5 + [True, False, False])
        self.assertEqual(labels(router), {16: (0, True, [5]), 17: (1, False, [5])})
        self.assertEqual(queues(router), [[]] * 5 + [[taken_back(1, 17)], [], []])

    def test_by_a_label_taken_back_on_all_its_holders(self):
        router = router_with(up=[0, 3], ways=[(0, 8), (1, 8)])
        fill_line(router, 0)
        fill_line(router, 3)
        self.assertEqual(router.lr_way(1, -1), 0)
        self.assertEqual(labels(router), {16: (0, True, [])})
        self.assertEqual(router.ways[:2], [8, -1])

    def test_by_a_label_let_go(self):
        router = router_with(up=[0, 1], ways=[(0, 8), (0, -1), (1, 8)])
        for p in (0, 1):
            router.lr_take(p, given(5, 99))
            router.lr_take(p, given(6, 98))
        fill_line(router, 0)
        self.assertEqual(router.lr_take(0, taken_back(5, 99)), 0)
        gone, other = router.lines[0], router.lines[1]
        self.assertEqual((gone.up, gone.heard, gone.waiting), (False, {}, []))
        self.assertEqual((other.up, other.heard, other.waiting), (True, {5: 99, 6: 98}, []))
        self.assertEqual(labels(router), {16: (0, False, [1]), 17: (1, True, [1])})

    def test_a_packet_never_brings_it_down(self):
        router = router_with(up=[0], ways=[(3, 0)])
        router.lr_take(0, given(3, 99))
        fill_line(router, 0)
        before = state(router)
        self.assertEqual(router.lr_take(0, packet(9, 16, [1])), 0)
        self.assertEqual(state(router), before)


class FullLineAtTheDesk(unittest.TestCase):
    UP = [begin(), line(2, 1)]
    SAID = take(2, taken_back(0, 16))

    def test_256_wait_one_more_brings_it_down(self):
        told = ask(self.UP + [self.SAID] * (FULL + 3))
        self.assertEqual(told, [0, 0] + [0] * (FULL + 1) + [-1, -1])

    def test_up_again_nothing_waits(self):
        self.assertEqual(waiting(self.UP + [self.SAID] * (FULL + 1) + [line(2, 1)], 2), 0)

    def test_by_ways_that_come_and_go(self):
        turns = [way(0, 8), way(0, -1)] * 128
        self.assertEqual(waiting(self.UP + turns, 2), 256)
        self.assertIsNone(waiting(self.UP + turns + [way(0, 8)], 2))
        self.assertIsNone(waiting(self.UP + [way(1, 8)] + turns, 2))

    def test_labels_it_held_are_free_then(self):
        calls = [begin(), line(2, 1), line(0, 1)] + [way(0, 8), way(0, -1)] * 60
        calls += [line(0, 1), take(0, given(3, 99))]
        send = [way(3, 0), take(0, packet(9, 16, [1]))]
        self.assertEqual(waiting(calls + send, 0), 1)
        self.assertEqual(waiting(calls + [self.SAID] * (FULL + 1) + send, 0), 2)

    def test_what_was_heard_there_is_gone(self):
        calls = [begin(), line(2, 1), line(0, 1), take(2, given(3, 99)), way(3, 2)]
        down = [self.SAID] * (FULL + 1)
        send = [take(0, packet(9, 16, [1]))]
        self.assertEqual(waiting(calls + send, 2), 2)
        self.assertEqual(waiting(calls + down + [line(2, 1)] + send, 2), 1)

    def test_other_lines_stay_up(self):
        calls = [begin(), line(2, 1), line(0, 1)] + [self.SAID] * (FULL + 1)
        self.assertEqual(last(calls + [take(2, given(0, 16))]), -1)
        self.assertEqual(last(calls + [take(0, given(0, 16))]), 0)


if __name__ == "__main__":
    unittest.main()

"""Promise 4, packets: one whose label is active here goes on for that label's end."""

import unittest

from helper import begin, drain, fill_line, given, last, line, packet, queues, router_with, state, take, waiting, way


class Packet(unittest.TestCase):
    def setUp(self):
        self.router = router_with(up=[0, 1], ways=[(4, 1), (5, 8), (6, 8), (6, -1)])
        self.router.lr_take(1, given(4, 700))
        self.router.lr_take(0, given(4, 800))
        self.router.lr_take(1, given(5, 900))

    def test_its_label_is_not_active(self):
        before = state(self.router)
        for label in (0, 15, 18, 19, 1039, 1040, 65535, 700, 800):
            self.assertEqual(self.router.lr_take(0, packet(9, label, [1])), 0)
            self.assertEqual(state(self.router), before)

    def test_by_a_line(self):
        self.assertEqual(self.router.lr_take(0, packet(64, 16, [7, 8, 9])), 0)
        self.assertEqual(queues(self.router), [[], [packet(63, 700, [7, 8, 9])]] + [[]] * 6)
        self.assertEqual(self.router.leaving, [])

    def test_back_by_the_line_it_came_on(self):
        self.router.lr_take(1, packet(255, 16, [7]))
        self.assertEqual(self.router.lines[1].waiting, [[1, 254, 2, 188, 7]])

    def test_behind_the_frames_that_wait(self):
        self.router.lr_way(7, 8)
        self.router.lr_take(0, packet(3, 16, [1]))
        self.router.lr_take(0, packet(4, 16, [2]))
        frames = [given(7, 19), packet(2, 700, [1]), packet(3, 700, [2])]
        self.assertEqual(self.router.lines[1].waiting, frames)

    def test_steps_left(self):
        for steps, left in ((0, []), (1, []), (2, [packet(1, 700, [5])]), (3, [packet(2, 700, [5])])):
            drain(self.router)
            self.assertEqual(self.router.lr_take(0, packet(steps, 16, [5])), 0)
            self.assertEqual(self.router.lines[1].waiting, left)

    def test_none_heard_there_for_that_end(self):
        self.router.lr_way(5, 0)
        before = state(self.router)
        self.assertEqual(self.router.lr_take(0, packet(9, 17, [1])), 0)
        self.assertEqual(state(self.router), before)

    def test_by_a_line_that_is_down(self):
        self.router.lr_line(1, 0)
        before = state(self.router)
        self.assertEqual(self.router.lr_take(0, packet(9, 16, [1])), 0)
        self.assertEqual(state(self.router), before)
        self.router.lines[1].heard = {4: 700}
        self.router.lr_take(0, packet(9, 16, [1]))
        self.assertEqual(self.router.lines[1].waiting, [])

    def test_128_frames_wait(self):
        for size, more in ((127, 1), (128, 0), (129, 0), (255, 0), (256, 0)):
            fill_line(self.router, 1, size)
            self.assertEqual(self.router.lr_take(0, packet(9, 16, [1])), 0)
            self.assertEqual(len(self.router.lines[1].waiting), size + more)
            self.assertTrue(self.router.lines[1].up)

    def test_the_greatest_packet(self):
        self.assertEqual(self.router.lr_take(0, packet(9, 16, [3] * 1500)), 0)
        self.assertEqual(self.router.lines[1].waiting, [packet(8, 700, [3] * 1500)])

    def test_here_it_leaves_whatever_its_steps(self):
        for steps in (0, 1, 64, 255):
            self.assertEqual(self.router.lr_take(1, packet(steps, 17, [steps, 2])), 0)
        self.assertEqual(self.router.leaving, [[5, 0, 2], [5, 1, 2], [5, 64, 2], [5, 255, 2]])
        self.assertEqual(queues(self.router), [[]] * 8)

    def test_here_64_wait_to_leave(self):
        for at in range(66):
            self.assertEqual(self.router.lr_take(0, packet(9, 17, [at])), 0)
        self.assertEqual(self.router.leaving, [[5, at] for at in range(64)])

    def test_no_way(self):
        for p in range(8):
            self.router.lr_line(p, 1)
            self.router.lr_take(p, given(20, 99))
        before = state(self.router)
        self.router.go_on(20, 9, [1])
        self.assertEqual(state(self.router), before)

    def test_the_way_of_its_labels_own_end(self):
        self.router.lr_way(4, 8)
        self.router.lr_way(5, 1)
        self.router.lr_take(0, packet(9, 16, [1]))
        self.router.lr_take(0, packet(9, 17, [2]))
        self.assertEqual(self.router.leaving, [[4, 1]])
        self.assertEqual(self.router.lines[1].waiting, [packet(8, 900, [2])])


class PacketAtTheDesk(unittest.TestCase):
    HEARD = [begin(), line(0, 1), line(1, 1), take(1, given(4, 700)), way(4, 1)]

    def test_it_waits_on_the_line_of_its_way(self):
        calls = self.HEARD + [take(0, packet(2, 16, [1]))]
        self.assertEqual([waiting(calls, 0), waiting(calls, 1)], [1, 2])

    def test_at_most_one_step_left(self):
        for steps in (0, 1):
            self.assertEqual(waiting(self.HEARD + [take(0, packet(steps, 16, [1]))], 1), 1)

    def test_at_most_128_wait(self):
        calls = self.HEARD + [take(0, packet(9, 16, [1]))] * 126
        self.assertEqual(waiting(calls, 1), 127)
        self.assertEqual(waiting(calls + [take(0, packet(9, 16, [1]))], 1), 128)
        self.assertEqual(waiting(calls + [take(0, packet(9, 16, [1]))] * 5, 1), 128)

    def test_lost_is_no_refusal(self):
        self.assertEqual(last(self.HEARD + [take(0, packet(0, 16, [1]))]), 0)
        self.assertEqual(last(self.HEARD + [take(0, packet(9, 17, [1]))]), 0)
        self.assertEqual(last(self.HEARD + [line(1, 0), take(0, packet(9, 16, [1]))]), 0)


if __name__ == "__main__":
    unittest.main()

"""Promise 6: lr_next, the first frame that waits on a line is taken away."""

import unittest

from helper import (
    ask, begin, enter, fill, fill_line, frames, given, last, let_go, line, look_waiting, packet, replies,
    router_with, state, take, take_frame, taken_back, way,
)

FAR = 4294967295

# On line 0 wait: a message, a packet of 7 bytes, a message.
THREE = [begin(), line(0, 1), way(4, 0), take(0, given(4, 700)), enter(4, [7, 8, 9]), take(0, taken_back(5, 99))]
THREE_FRAMES = [given(4, 16), packet(63, 700, [7, 8, 9]), let_go(5, 99)]


def behind(calls, more):
    return replies(calls + more)[len(calls):]


class InOrder(unittest.TestCase):
    def test_the_first_one_first(self):
        taken = behind(THREE, [take_frame(0)] * 4)
        self.assertEqual(taken, [[5, 0, 1, 4, 0, 16], [7, 1, 63, 2, 188, 7, 8, 9], [5, 0, 3, 5, 0, 99], [-1]])

    def test_what_was_taken_doesnt_wait_any_more(self):
        more = [look_waiting(0), take_frame(0)] * 3 + [look_waiting(0)]
        self.assertEqual(behind(THREE, more)[0::2], [[3], [2], [1], [0]])

    def test_what_comes_meanwhile_waits_behind(self):
        calls = THREE + [take_frame(0), way(6, 8), take_frame(0), enter(4, [1])]
        self.assertEqual(frames(calls, 0), [let_go(5, 99), given(6, 17), packet(63, 700, [1])])

    def test_each_line_has_its_own(self):
        calls = [begin()] + [line(p, 1) for p in range(8)] + [take(p, taken_back(p, 300 + p)) for p in range(8)]
        for p in range(8):
            others = calls + [take_frame(p)]
            self.assertEqual(behind(calls, [take_frame(p)] * 2), [[5] + let_go(p, 300 + p), [-1]])
            self.assertEqual([last(others + [look_waiting(q)]) for q in range(8)], [int(q != p) for q in range(8)])

    def test_all_256(self):
        calls = [begin(), line(3, 1)] + [take(3, taken_back(at % 32, 16 + at)) for at in range(256)]
        self.assertEqual(frames(calls, 3), [let_go(at % 32, 16 + at) for at in range(256)])

    def test_one_that_was_taken_makes_room_for_a_message(self):
        calls = [begin(), line(3, 1)] + fill(3)
        self.assertEqual(ask(calls + fill(3, 1) + [take(3, [9])])[-2:], [0, -1])
        self.assertEqual(behind(calls, [take_frame(3)] + fill(3, 1) + [take(3, [9]), look_waiting(3)])[1:],
                         [[0], [-3], [256]])

    def test_only_that_queue_is_changed(self):
        router = router_with(up=[0, 1], ways=[(4, 0), (5, 8), (6, 8), (6, -1)])
        router.lr_take(0, given(4, 700))
        router.lr_enter(5, [1])
        fill_line(router, 0, 3)
        fill_line(router, 1, 3)
        ways, labels, lines, leaving = state(router)
        self.assertEqual(router.lr_next(0, 2), [2, 9, 0])
        lines[0][2].pop(0)
        self.assertEqual(state(router), (ways, labels, lines, leaving))


class NoneWaits(unittest.TestCase):
    def test_a_line_that_was_never_up(self):
        for p in range(8):
            self.assertEqual(last([begin(), take_frame(p)]), -1)

    def test_a_line_on_which_nothing_was_said(self):
        self.assertEqual(last([begin(), line(0, 1), take_frame(0)]), -1)

    def test_all_were_taken(self):
        self.assertEqual(behind([begin(), line(0, 1), way(1, 8)], [take_frame(0)] * 3),
                         [[5] + given(1, 16), [-1], [-1]])

    def test_frames_that_wait_elsewhere(self):
        self.assertEqual(last(THREE + [line(1, 1), take_frame(1), take_frame(2)]), -1)

    def test_a_line_that_went_down(self):
        self.assertEqual(last(THREE + [line(0, 0), take_frame(0)]), -1)

    def test_a_line_that_was_full_and_went_down(self):
        self.assertEqual(last([begin(), line(0, 1)] + fill(0, 257) + [take_frame(0)]), -1)

    def test_begun_anew(self):
        self.assertEqual(last(THREE + [begin(), take_frame(0)]), -1)

    def test_whatever_most_is(self):
        for most in (0, 1, 4, 5, 65535, 65536):
            self.assertEqual(last([begin(), line(0, 1), take_frame(0, most)]), -1)


class TooLong(unittest.TestCase):
    def test_just_as_long_as_most_and_one_less(self):
        self.assertEqual(behind(THREE, [take_frame(0, 4), take_frame(0, 5)]), [[-5], [5] + THREE_FRAMES[0]])
        packet_first = THREE + [take_frame(0)]
        self.assertEqual(behind(packet_first, [take_frame(0, 6), take_frame(0, 7)]), [[-5], [7] + THREE_FRAMES[1]])

    def test_most_0(self):
        self.assertEqual(last(THREE + [take_frame(0, 0)]), -5)

    def test_the_shortest_packet(self):
        calls = [begin(), line(0, 1), way(4, 0), take(0, given(4, 700)), take_frame(0), enter(4, [9])]
        self.assertEqual(behind(calls, [take_frame(0, 4), take_frame(0, 5)]), [[-5], [5, 1, 63, 2, 188, 9]])

    def test_the_longest_packet(self):
        calls = [begin(), line(0, 1), way(4, 0), take(0, given(4, 700)), take_frame(0), enter(4, [3] * 1500)]
        self.assertEqual(behind(calls, [take_frame(0, 1503), take_frame(0, 1504)]),
                         [[-5], [1504, 1, 63, 2, 188] + [3] * 1500])

    def test_it_still_waits_and_is_the_first(self):
        calls = THREE + [take_frame(0), take_frame(0, 6), take_frame(0, 5)]
        self.assertEqual(last(calls + [look_waiting(0)]), 2)
        self.assertEqual(frames(calls, 0), THREE_FRAMES[1:])

    def test_a_shorter_one_behind_it_isnt_taken(self):
        packet_first = THREE + [take_frame(0)]
        self.assertEqual(behind(packet_first, [take_frame(0, 5)]), [[-5]])

    def test_nothing_is_done(self):
        router = router_with(up=[0], ways=[(4, 0)])
        fill_line(router, 0, 3)
        before = state(router)
        self.assertEqual(router.lr_next(0, 1), [-5])
        self.assertEqual(state(router), before)


class Ranges(unittest.TestCase):
    def test_p_is_refused_out_of_range(self):
        for p in (-1, -2, -8, -2147483648, 8, 9, 2147483647):
            for most in (0, 5, 65536, 65537):
                self.assertEqual(last(THREE + [take_frame(p, most)]), -2, (p, most))

    def test_most_is_refused_above_65536(self):
        self.assertEqual(behind(THREE, [take_frame(0, 65536)]), [[5] + THREE_FRAMES[0]])
        for most in (65537, 65538, 131072, 2147483648, FAR):
            self.assertEqual(last(THREE + [take_frame(0, most)]), -2, most)

    def test_out_of_range_comes_before_none_waits(self):
        self.assertEqual(last([begin(), take_frame(0, 65537)]), -2)
        self.assertEqual(last([begin(), line(0, 1), take_frame(0, FAR)]), -2)
        self.assertEqual(last([begin(), take_frame(8)]), -2)
        self.assertEqual(last([begin(), take_frame(-1, 0)]), -2)

    def test_out_of_range_comes_before_too_long(self):
        calls = [begin()] + [line(p, 1) for p in range(8)] + [way(4, 8)]
        for p in (-1, -8, 8):
            self.assertEqual(last(calls + [take_frame(p, 0)]), -2)

    def test_none_waits_comes_before_too_long(self):
        self.assertEqual(last([begin(), line(0, 1), take_frame(0, 0)]), -1)

    def test_nothing_is_done(self):
        calls = THREE + [take_frame(0, 65537), take_frame(-8), take_frame(8), take_frame(0, FAR)]
        self.assertEqual(frames(calls, 0), THREE_FRAMES)
        router = router_with(up=range(8), ways=[(4, 0)])
        for p in range(8):
            fill_line(router, p, 2)
        before = state(router)
        for p, most in ((-1, 9), (-8, 9), (8, 9), (0, 65537)):
            self.assertEqual(router.lr_next(p, most), [-2])
            self.assertEqual(state(router), before)


if __name__ == "__main__":
    unittest.main()

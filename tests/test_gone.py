"""Promise 7: lr_gone, the first packet that leaves here is taken away."""

import unittest

from helper import (
    begin, enter, fill_line, frames, given, last, line, packet, packets_gone, replies, router_with, state, take,
    take_gone, way,
)

FAR = 4294967295

# A packet for end 31 leaves, then one for end 0 that came on a line, then one for end 31.
THREE = [begin(), way(31, 8), way(0, 8), line(2, 1), enter(31, [7, 8]), take(2, packet(9, 17, [1])), enter(31, [6])]
THREE_PACKETS = [[31, 7, 8], [0, 1], [31, 6]]


def behind(calls, more):
    return replies(calls + more)[len(calls):]


class InOrder(unittest.TestCase):
    def test_the_first_one_first_its_end_ahead_and_counted(self):
        self.assertEqual(behind(THREE, [take_gone()] * 4), [[3, 31, 7, 8], [2, 0, 1], [2, 31, 6], [-1]])

    def test_what_leaves_meanwhile_comes_behind(self):
        calls = THREE + [take_gone(), enter(0, [5]), take_gone(), enter(31, [4])]
        self.assertEqual(packets_gone(calls), [[31, 6], [0, 5], [31, 4]])

    def test_a_packet_that_came_on_a_line_leaves_without_its_head(self):
        calls = [begin(), way(9, 8), line(0, 1), take(0, packet(0, 16, [0])), take(0, packet(255, 16, [3] * 1500))]
        self.assertEqual(packets_gone(calls), [[9, 0], [9] + [3] * 1500])

    def test_all_64(self):
        calls = [begin(), way(9, 8)] + [enter(9, [at]) for at in range(64)]
        self.assertEqual(packets_gone(calls), [[9, at] for at in range(64)])

    def test_it_leaves_whatever_comes_of_the_way_and_the_lines(self):
        calls = THREE + [line(2, 0), way(31, -1), way(0, 3), line(2, 1)]
        self.assertEqual(packets_gone(calls), THREE_PACKETS)

    def test_frames_that_wait_stay(self):
        calls = THREE + [take_gone()] * 4
        self.assertEqual(frames(calls, 2), frames(THREE, 2))
        self.assertEqual(frames(calls, 2), [given(31, 16), given(0, 17)])

    def test_only_that_queue_is_changed(self):
        router = router_with(up=[0, 1], ways=[(4, 0), (5, 8), (6, 8), (6, -1)])
        router.lr_take(0, given(4, 700))
        router.lr_enter(5, [1])
        router.lr_enter(5, [2])
        fill_line(router, 0, 3)
        ways, labels, lines, leaving = state(router)
        self.assertEqual(router.lr_gone(2), [2, 5, 1])
        self.assertEqual(state(router), (ways, labels, lines, leaving[1:]))


class NoneLeaves(unittest.TestCase):
    def test_at_first(self):
        self.assertEqual(last([begin(), take_gone()]), -1)

    def test_all_were_taken(self):
        self.assertEqual(behind([begin(), way(1, 8), enter(1, [2])], [take_gone()] * 3), [[2, 1, 2], [-1], [-1]])

    def test_frames_that_wait_on_lines_dont_leave(self):
        calls = [begin(), line(0, 1), way(4, 0), take(0, given(4, 99)), enter(4, [1])]
        self.assertEqual(last(calls + [take_gone()]), -1)

    def test_begun_anew(self):
        self.assertEqual(last(THREE + [begin(), take_gone()]), -1)

    def test_whatever_most_is(self):
        for most in (0, 1, 2, 65535, 65536):
            self.assertEqual(last([begin(), take_gone(most)]), -1)


class TooLong(unittest.TestCase):
    def test_just_as_long_as_most_and_one_less(self):
        self.assertEqual(behind(THREE, [take_gone(2), take_gone(3)]), [[-5], [3, 31, 7, 8]])
        self.assertEqual(behind(THREE + [take_gone()], [take_gone(1), take_gone(2)]), [[-5], [2, 0, 1]])

    def test_most_0(self):
        self.assertEqual(last(THREE + [take_gone(0)]), -5)

    def test_the_longest_packet(self):
        calls = [begin(), way(8, 8), enter(8, [3] * 1500)]
        self.assertEqual(behind(calls, [take_gone(1500), take_gone(1501)]), [[-5], [1501, 8] + [3] * 1500])

    def test_it_still_waits_and_is_the_first(self):
        self.assertEqual(packets_gone(THREE + [take_gone(2), take_gone(0)]), THREE_PACKETS)

    def test_a_shorter_one_behind_it_isnt_taken(self):
        self.assertEqual(last(THREE + [take_gone(2)]), -5)

    def test_one_that_was_refused_still_counts_among_the_64(self):
        calls = [begin(), way(9, 8)] + [enter(9, [at]) for at in range(64)] + [take_gone(1), enter(9, [64])]
        self.assertEqual(packets_gone(calls), [[9, at] for at in range(64)])


class Ranges(unittest.TestCase):
    def test_most_is_refused_above_65536(self):
        self.assertEqual(behind(THREE, [take_gone(65536)]), [[3, 31, 7, 8]])
        for most in (65537, 65538, 131072, 2147483648, FAR):
            self.assertEqual(last(THREE + [take_gone(most)]), -2, most)

    def test_out_of_range_comes_before_none_leaves(self):
        for most in (65537, FAR):
            self.assertEqual(last([begin(), take_gone(most)]), -2)

    def test_none_leaves_comes_before_too_long(self):
        self.assertEqual(last([begin(), take_gone(0)]), -1)

    def test_nothing_is_done_where_its_refused(self):
        self.assertEqual(packets_gone(THREE + [take_gone(65537), take_gone(FAR)]), THREE_PACKETS)
        router = router_with(up=[0], ways=[(5, 8)])
        router.lr_enter(5, [1])
        before = state(router)
        for most, number in ((65537, -2), (1, -5), (0, -5)):
            self.assertEqual(router.lr_gone(most), [number])
            self.assertEqual(state(router), before)


if __name__ == "__main__":
    unittest.main()

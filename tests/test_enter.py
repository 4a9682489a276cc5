"""Promise 5: lr_enter, a packet that comes in here and goes on with 64 steps."""

import unittest

from helper import (
    ask, ask_behind, begin, enter, fill, frames, given, last, line, look_labels, look_waiting, packet, packets_gone,
    replies, router_with, state, take, take_frame, take_gone, taken_back, way,
)

FAR = 2147483647

# End 4 goes by line 2, where 700 was heard for it; what was said there is taken away.
BY_LINE_2 = [begin(), line(2, 1), way(4, 2), take(2, given(4, 700)), take_frame(2)]
HERE = [begin(), way(5, 8)]


class Ranges(unittest.TestCase):
    def test_each_end_is_taken(self):
        self.assertEqual(ask([begin()] + [enter(f, [1]) for f in range(32)]), [0] * 33)

    def test_each_end_goes_by_its_own_way(self):
        for f in range(32):
            self.assertEqual(packets_gone([begin(), way(f, 8), enter(f, [7])]), [[f, 7]])

    def test_f_is_refused_out_of_range(self):
        for f in (-1, -2, -32, -FAR - 1, 32, 33, 255, FAR):
            for payload in ([1], [], [1] * 1500):
                self.assertEqual(last([begin(), enter(f, payload)]), -2, f)

    def test_no_bytes_are_refused(self):
        for calls, f in ((BY_LINE_2, 4), (HERE, 5), ([begin()], 0)):
            self.assertEqual(last(calls + [enter(f, [])]), -2)

    def test_more_than_1500_bytes_are_refused(self):
        router = router_with(ways=[(5, 8)])
        self.assertEqual(router.lr_enter(5, [3] * 1501), -2)
        self.assertEqual(router.leaving, [])
        self.assertEqual(router.lr_enter(5, [3] * 1500), 0)
        self.assertEqual(router.leaving, [[5] + [3] * 1500])

    def test_nothing_is_done_where_its_refused(self):
        router = router_with(up=[2], ways=[(0, 2), (31, 8), (5, 8)])
        router.lr_take(2, given(0, 99))
        before = state(router)
        for f, payload in ((-1, [1]), (32, [1]), (-32, [1]), (0, []), (31, []), (5, [1] * 1501)):
            self.assertEqual(router.lr_enter(f, payload), -2)
            self.assertEqual(state(router), before)

    def test_nothing_goes_on_where_its_refused(self):
        calls = [begin(), line(2, 1), way(31, 8), way(0, 8), take_frame(2), take_frame(2)]
        calls += [enter(-1, [1]), enter(32, [1]), enter(31, []), enter(0, [])]
        self.assertEqual(packets_gone(calls), [])
        self.assertEqual(frames(calls, 2), [])

    def test_the_call_behind_a_refused_one_is_read_right(self):
        calls = [begin(), way(5, 8), enter(32, [0, 1, 2]), enter(5, []), enter(5, [6]), take_gone()]
        self.assertEqual(replies(calls), [[0], [0], [-2], [-2], [0], [2, 5, 6]])


class NoWay(unittest.TestCase):
    def test_its_lost(self):
        calls = [begin()] + [line(p, 1) for p in range(8)] + [take(p, given(4, 700)) for p in range(8)]
        self.assertEqual(last(calls + [enter(4, [1])]), 0)
        self.assertEqual(packets_gone(calls + [enter(4, [1])]), [])
        self.assertEqual(ask_behind(calls + [enter(4, [1])], [look_waiting(p) for p in range(8)]), [0] * 8)

    def test_a_way_that_was_taken_away(self):
        self.assertEqual(packets_gone(HERE + [way(5, -1), enter(5, [1])]), [])
        self.assertEqual(frames(BY_LINE_2 + [way(4, -1), enter(4, [1])], 2), [taken_back(4, 16)])

    def test_it_isnt_kept_for_a_way_that_comes_later(self):
        calls = [begin(), enter(5, [1]), way(5, 8), take_gone()]
        self.assertEqual(replies(calls), [[0], [0], [0], [-1]])


class Here(unittest.TestCase):
    def test_it_leaves(self):
        self.assertEqual(replies(HERE + [enter(5, [7, 0, 255]), take_gone()])[2:], [[0], [4, 5, 7, 0, 255]])

    def test_nothing_waits_on_a_line(self):
        calls = [begin()] + [line(p, 1) for p in range(8)] + [take(p, given(5, 700)) for p in range(8)]
        calls += [way(5, 8), enter(5, [1])]
        self.assertEqual(ask_behind(calls, [look_waiting(p) for p in range(8)]), [1] * 8)

    def test_one_byte_and_1500(self):
        many = [at % 256 for at in range(1500)]
        self.assertEqual(packets_gone(HERE + [enter(5, [0]), enter(5, many)]), [[5, 0], [5] + many])

    def test_63_and_64_wait_to_leave(self):
        calls = HERE + [enter(5, [at]) for at in range(63)]
        self.assertEqual(packets_gone(calls), [[5, at] for at in range(63)])
        self.assertEqual(packets_gone(calls + [enter(5, [63])]), [[5, at] for at in range(64)])
        self.assertEqual(packets_gone(calls + [enter(5, [63]), enter(5, [64])]), [[5, at] for at in range(64)])

    def test_the_64_are_of_all_ends_together(self):
        calls = [begin()] + [way(f, 8) for f in range(32)] + [enter(at % 32, [at]) for at in range(64)]
        self.assertEqual(last(calls + [enter(0, [99])]), 0)
        self.assertEqual(packets_gone(calls + [enter(0, [99])]), [[at % 32, at] for at in range(64)])

    def test_those_that_came_on_a_line_count_too(self):
        calls = [begin(), way(5, 8), line(0, 1)] + [take(0, packet(1, 16, [1]))] * 63
        left = [[5, 1]] * 63 + [[5, 2]]
        self.assertEqual(packets_gone(calls + [enter(5, [2]), enter(5, [3])]), left)
        self.assertEqual(packets_gone(calls + [enter(5, [2]), take(0, packet(1, 16, [3]))]), left)

    def test_one_that_was_taken_makes_room(self):
        calls = HERE + [enter(5, [1])] * 64 + [take_gone(), enter(5, [2]), enter(5, [3])]
        self.assertEqual(packets_gone(calls), [[5, 1]] * 63 + [[5, 2]])


class ByALine(unittest.TestCase):
    def test_with_the_label_heard_there_and_63_steps(self):
        calls = BY_LINE_2 + [enter(4, [7, 0, 255])]
        self.assertEqual(last(calls), 0)
        self.assertEqual(frames(calls, 2), [[1, 63, 2, 188, 7, 0, 255]])
        self.assertEqual(packets_gone(calls), [])

    def test_one_byte_and_1500(self):
        many = [at % 256 for at in range(1500)]
        calls = BY_LINE_2 + [enter(4, [0]), enter(4, many)]
        self.assertEqual(frames(calls, 2), [packet(63, 700, [0]), packet(63, 700, many)])

    def test_by_each_line(self):
        for p in range(8):
            calls = [begin(), line(p, 1), take(p, given(0, 16 + p)), way(0, p), enter(0, [9])]
            self.assertEqual(frames(calls, p), [given(0, 16), packet(63, 16 + p, [9])])

    def test_behind_the_frames_that_wait(self):
        calls = BY_LINE_2 + [enter(4, [1]), way(9, 8), enter(4, [2]), enter(4, [3]), take(2, taken_back(7, 300))]
        waits = frames(calls, 2)
        self.assertEqual(waits[:4], [packet(63, 700, [1]), given(9, 17), packet(63, 700, [2]), packet(63, 700, [3])])
        self.assertEqual(waits[4:], [[0, 3, 7, 1, 44]])

    def test_the_label_that_was_heard_last(self):
        calls = BY_LINE_2 + [enter(4, [1]), take(2, given(4, 65535)), enter(4, [2])]
        self.assertEqual(frames(calls, 2), [packet(63, 700, [1]), packet(63, 65535, [2])])

    def test_the_way_that_was_set_last(self):
        calls = BY_LINE_2 + [line(3, 1), take(3, given(4, 800)), way(4, 3), enter(4, [1])]
        self.assertEqual(frames(calls, 2), [])
        self.assertEqual(frames(calls, 3), [given(4, 16), packet(63, 800, [1])])

    def test_nothing_was_heard_there(self):
        calls = [begin(), line(2, 1), way(4, 2), enter(4, [1])]
        self.assertEqual(last(calls), 0)
        self.assertEqual(frames(calls, 2), [given(4, 16)])

    def test_heard_for_another_end_or_on_another_line(self):
        calls = [begin(), line(2, 1), line(3, 1), take(2, given(5, 700)), take(3, given(4, 700))]
        calls += [way(4, 2), enter(4, [1])]
        self.assertEqual(last(calls), 0)
        self.assertEqual(frames(calls, 2), [given(4, 16)])
        self.assertEqual(frames(calls, 3), [given(4, 16)])

    def test_heard_there_and_taken_back(self):
        calls = BY_LINE_2 + [take(2, taken_back(4, 700)), enter(4, [1])]
        self.assertEqual(last(calls), 0)
        self.assertEqual(frames(calls, 2), [[0, 3, 4, 2, 188]])

    def test_the_line_is_down(self):
        calls = BY_LINE_2 + [line(2, 0), enter(4, [1])]
        self.assertEqual(last(calls), 0)
        self.assertEqual(frames(calls, 2), [])
        self.assertEqual(frames(calls + [line(2, 1)], 2), [given(4, 16)])
        router = router_with(ways=[(4, 2)])
        router.lines[2].heard = {4: 700}
        self.assertEqual(router.lr_enter(4, [1]), 0)
        self.assertEqual(router.lines[2].waiting, [])

    def test_127_and_128_packets_wait(self):
        self.check_room([enter(4, [1])] * 127)

    def test_127_and_128_messages_wait(self):
        self.check_room(fill(2, 127))

    def test_127_and_128_of_both_wait(self):
        self.check_room(fill(2, 60) + [enter(4, [1])] * 40 + [take(2, packet(9, 16, [2]))] * 27)

    def check_room(self, calls):
        waits = BY_LINE_2 + calls
        self.assertEqual(last(waits + [look_waiting(2)]), 127)
        one_more = waits + [enter(4, [8])]
        self.assertEqual(frames(one_more, 2)[127:], [packet(63, 700, [8])])
        self.assertEqual(last(one_more + [enter(4, [9])]), 0)
        self.assertEqual(frames(one_more + [enter(4, [9])], 2), frames(one_more, 2))

    def test_more_than_128_messages_wait(self):
        for size in (128, 129, 255, 256):
            calls = BY_LINE_2 + fill(2, size) + [enter(4, [1])]
            self.assertEqual(ask_behind(calls, [look_waiting(2)]), [size])

    def test_messages_that_wait_elsewhere_dont_count(self):
        calls = BY_LINE_2 + [line(3, 1)] + fill(3, 200) + [enter(4, [8])]
        self.assertEqual(frames(calls, 2), [packet(63, 700, [8])])

    def test_one_that_was_taken_makes_room(self):
        calls = BY_LINE_2 + [enter(4, [1])] * 128 + [take_frame(2), enter(4, [2]), enter(4, [3])]
        self.assertEqual(frames(calls, 2), [packet(63, 700, [1])] * 127 + [packet(63, 700, [2])])

    def test_no_label_is_made_by_it(self):
        self.assertEqual(ask_behind(BY_LINE_2 + [enter(4, [1]), enter(9, [1])], [look_labels()]), [1])


if __name__ == "__main__":
    unittest.main()

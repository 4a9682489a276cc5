"""What is said on the lines and how labels are used anew, seen through the calls (behind promises 2 to 4)."""

import unittest

from helper import (
    FULL, ask_behind, begin, fill, frames, given, last, let_go, line, look_active, look_heard, look_labels,
    look_waiting, replies, same, take, take_frame, taken_back, waiting, way,
)

ALL_UP = [begin()] + [line(p, 1) for p in range(8)]


def all_frames(calls):
    return [frames(calls, p) for p in range(8)]


def without_free_label():
    """Calls after which all 1024 labels are taken back and line 0 still holds them."""
    turn = [way(0, 8), way(0, -1), take_frame(0, 5), take_frame(0, 5)]
    return [begin(), line(0, 1)] + turn * 1024


class Said(unittest.TestCase):
    def test_a_label_given_on_all_lines_that_are_up(self):
        self.assertEqual(all_frames(ALL_UP + [way(31, 5)]), [[[0, 1, 31, 0, 16]]] * 8)
        calls = [begin(), line(6, 1), line(0, 1), line(3, 1), line(3, 0), way(31, 8)]
        said = [[0, 1, 31, 0, 16]]
        self.assertEqual(all_frames(calls), [said, [], [], [], [], [], said, []])

    def test_nothing_is_said_where_the_way_stays_or_changes(self):
        calls = [begin(), way(3, 8), line(0, 1), take_frame(0), way(3, 8), way(3, 0), way(3, 7), way(9, -1)]
        self.assertEqual(all_frames(calls), [[]] * 8)

    def test_nothing_is_said_where_the_way_is_refused(self):
        self.assertEqual(all_frames(ALL_UP + [way(3, 9), way(3, -2), way(-1, 8), way(32, 8)]), [[]] * 8)

    def test_a_label_taken_back_on_all_its_holders(self):
        self.assertEqual(all_frames(ALL_UP + [way(7, 8), way(7, -1)]), [[[0, 1, 7, 0, 16], [0, 2, 7, 0, 16]]] * 8)

    def test_a_line_that_holds_it_no_more_is_not_told(self):
        calls = [begin(), line(1, 1), line(2, 1), way(7, 8), line(1, 0), way(7, -1), line(1, 1)]
        self.assertEqual(frames(calls, 1), [])
        self.assertEqual(frames(calls, 2), [given(7, 16), taken_back(7, 16)])

    def test_let_go_of_an_active_label_it_still_holds_it(self):
        calls = [begin(), line(1, 1), way(7, 8), take(1, let_go(7, 16)), way(7, -1)]
        self.assertEqual(frames(calls, 1), [given(7, 16), taken_back(7, 16)])

    def test_a_label_taken_back_there_is_let_go(self):
        calls = ALL_UP + [take(4, given(9, 1000)), take(4, taken_back(9, 1000)), take(4, taken_back(30, 65535))]
        said = [[0, 3, 9, 3, 232], [0, 3, 30, 255, 255]]
        self.assertEqual(all_frames(calls), [[]] * 4 + [said] + [[]] * 3)

    def test_nothing_is_said_where_one_is_given_or_let_go_there(self):
        calls = ALL_UP + [take(4, given(9, 1000)), take(4, let_go(9, 1000)), take(4, let_go(9, 16))]
        self.assertEqual(all_frames(calls), [[]] * 8)

    def test_one_behind_another(self):
        calls = [begin(), line(0, 1), way(1, 8), take(0, taken_back(2, 300)), way(3, 8), way(1, -1), way(4, 0)]
        said = [given(1, 16), let_go(2, 300), given(3, 17), taken_back(1, 16), given(4, 18)]
        self.assertEqual(frames(calls, 0), said)

    def test_a_line_that_comes_up_is_given_the_active_labels_in_the_order_they_were_made(self):
        calls = [begin(), way(9, 8), way(4, 0), way(30, 7), way(2, 2), way(4, -1), way(7, 1), line(6, 1)]
        self.assertEqual(frames(calls, 6), [given(9, 16), given(30, 18), given(2, 19), given(7, 17)])

    def test_a_line_that_comes_up_is_not_given_those_taken_back(self):
        calls = [begin(), line(0, 1), way(9, 8), way(4, 8), way(9, -1), line(1, 1)]
        self.assertEqual(frames(calls, 1), [given(4, 17)])

    def test_a_line_that_comes_up_again_is_given_them_anew(self):
        calls = [begin(), line(0, 1), way(9, 8), way(4, 8), take(0, taken_back(1, 99)), line(0, 1)]
        self.assertEqual(frames(calls, 0), [given(9, 16), given(4, 17)])
        self.assertEqual(frames(calls + [way(9, -1)], 0), [given(9, 16), given(4, 17), taken_back(9, 16)])

    def test_labels_are_used_anew_when_a_line_that_comes_up_again_let_them_go(self):
        calls = [begin(), line(0, 1), way(9, 8), way(9, -1), line(0, 1), way(4, 8)]
        self.assertEqual(frames(calls, 0), [given(4, 16)])


class LeastFreeLabel(unittest.TestCase):
    def test_from_16_on(self):
        calls = [begin()] + [way(f, 8) for f in range(31, -1, -1)]
        self.assertEqual(ask_behind(calls, [look_active(31), look_active(30), look_active(0)]), [16, 17, 47])

    def test_free_ones_between_others_come_first(self):
        calls = [begin()] + [way(f, 8) for f in range(4)] + [way(2, -1), way(1, -1)]
        calls += [way(9, 8), way(10, 8), way(11, 8)]
        self.assertEqual(ask_behind(calls, [look_active(f) for f in (9, 10, 11)]), [17, 18, 20])

    def test_one_taken_back_isnt_free_as_long_as_somebody_holds_it(self):
        calls = [begin(), line(0, 1), line(1, 1), way(0, 8), way(0, -1), take(0, let_go(0, 16)), way(1, 8)]
        self.assertEqual(ask_behind(calls, [look_active(1)]), [17])
        calls += [take(1, let_go(0, 16)), way(2, 8)]
        self.assertEqual(ask_behind(calls, [look_active(2)]), [16])

    def test_the_last_one_is_1039(self):
        calls = without_free_label()[:-4] + [way(6, 8)]
        self.assertEqual(ask_behind(calls, [look_active(6), look_labels()]), [1039, 1024])
        self.assertEqual(frames(calls, 0), [[0, 1, 6, 4, 15]])

    def test_each_is_one_more_than_the_one_before(self):
        calls = without_free_label()
        said = [reply for reply in replies(calls) if len(reply) == 6]
        numbers = [frame[4] * 256 + frame[5] for frame in said]
        self.assertTrue(same([frame[1:4] for frame in said], [[0, 1, 0], [0, 2, 0]] * 1024))
        self.assertTrue(same(numbers[0::2], list(range(16, 1040))))
        self.assertTrue(same(numbers[1::2], list(range(16, 1040))))


class NoFreeLabel(unittest.TestCase):
    def test_a_first_way_is_refused(self):
        calls = without_free_label()
        self.assertEqual(ask_behind(calls, [look_labels()]), [1024])
        self.assertEqual(ask_behind(calls, [way(f, f % 9) for f in range(32)]), [-1] * 32)

    def test_nothing_is_done(self):
        more = [way(5, 8), look_active(5), look_labels(), look_waiting(0)]
        self.assertEqual(ask_behind(without_free_label(), more), [-1, -1, 1024, 0])

    def test_out_of_range_comes_before_it(self):
        more = [way(32, 8), way(-1, 8), way(5, 9), way(5, -2)]
        self.assertEqual(ask_behind(without_free_label(), more), [-2] * 4)

    def test_other_changes_need_none(self):
        calls = without_free_label()[:-4] + [way(6, 8)]
        more = [way(5, 8), way(5, -1), way(6, 3), way(6, -1), way(6, 3), look_labels()]
        self.assertEqual(ask_behind(calls, more), [-1, 0, 0, 0, -1, 1024])

    def test_one_that_was_let_go_is_given(self):
        more = [take(0, let_go(0, 600)), way(5, 8), look_active(5), way(6, 8)]
        self.assertEqual(ask_behind(without_free_label(), more), [0, 0, 600, -1])

    def test_all_are_free_where_the_line_goes_down(self):
        more = [line(0, 0), look_labels(), way(5, 8), look_active(5)]
        self.assertEqual(ask_behind(without_free_label(), more), [0, 0, 0, 16])


class FullLine(unittest.TestCase):
    UP = [begin(), line(2, 1), line(5, 1)]

    def test_256_wait_one_more_message_brings_it_down(self):
        calls = self.UP + fill(2, FULL - 1)
        self.assertEqual([waiting(calls + fill(2, more), 2) for more in range(4)], [255, 256, None, None])

    def test_by_a_label_given(self):
        calls = self.UP + fill(2) + [way(1, 8)]
        self.assertEqual(last(calls), 0)
        self.assertIsNone(waiting(calls, 2))
        self.assertEqual(frames(calls, 2), [])
        self.assertEqual(frames(calls, 5), [given(1, 16)])
        self.assertEqual(ask_behind(calls, [look_active(1), look_labels()]), [16, 1])

    def test_by_a_label_given_it_isnt_a_holder(self):
        calls = [begin(), line(2, 1)] + fill(2) + [way(1, 8), way(1, -1), look_labels()]
        self.assertEqual(last(calls), 0)
        # Up again, it was never given that label, so it isn't told of its end.
        calls = self.UP + fill(2) + [way(1, 8), way(1, -1), line(2, 1)]
        self.assertEqual(frames(calls, 2), [])
        self.assertEqual(frames(calls, 5), [given(1, 16), taken_back(1, 16)])

    def test_by_a_label_given_others_that_it_held_are_free(self):
        calls = [begin(), line(2, 1), way(0, 8), way(0, -1)] + fill(2, FULL - 2)
        self.assertEqual(ask_behind(calls, [look_labels(), way(1, 8), look_labels(), look_active(1)]), [1, 0, 1, 17])
        self.assertEqual(ask_behind(calls + [way(1, 8), way(2, 8)], [look_active(2)]), [16])

    def test_by_a_label_taken_back(self):
        calls = self.UP + [way(1, 8), way(3, 8)] + fill(2, FULL - 2) + [way(1, -1)]
        self.assertEqual(last(calls), 0)
        self.assertIsNone(waiting(calls, 2))
        self.assertEqual(frames(calls, 5), [given(1, 16), given(3, 17), taken_back(1, 16)])
        self.assertEqual(ask_behind(calls, [look_labels(), take(5, let_go(1, 16)), look_labels()]), [2, 0, 1])
        self.assertEqual(frames(calls + [line(2, 1)], 2), [given(3, 17)])

    def test_by_a_label_taken_back_on_its_last_holder(self):
        calls = [begin(), line(2, 1), way(1, 8)] + fill(2, FULL - 1) + [way(1, -1)]
        self.assertEqual(ask_behind(calls, [look_labels(), look_active(1), look_waiting(2)]), [0, -1, 0])

    def test_by_a_label_taken_back_on_all_lines(self):
        calls = ALL_UP + [way(1, 8)] + fill(0, FULL - 1) + fill(1, FULL - 1) + fill(7, FULL - 1) + [way(1, -1)]
        told = [given(1, 16), taken_back(1, 16)]
        self.assertEqual(all_frames(calls), [[], [], told, told, told, told, told, []])
        self.assertEqual([waiting(calls, p) for p in range(8)], [None, None, 2, 2, 2, 2, 2, None])

    def test_by_a_label_let_go(self):
        calls = self.UP + [take(2, given(4, 99)), take(5, given(4, 98))] + fill(2)
        looks = [look_heard(4, 2), look_heard(4, 5), look_waiting(2)]
        self.assertEqual(ask_behind(calls, looks), [99, 98, 256])
        self.assertEqual(ask_behind(calls + [take(2, taken_back(7, 55))], looks), [-1, 98, 0])

    def test_nothing_that_waited_is_there_when_its_up_again(self):
        self.assertEqual(frames(self.UP + [way(1, 8)] + fill(2, FULL) + [line(2, 1)], 2), [given(1, 16)])


if __name__ == "__main__":
    unittest.main()

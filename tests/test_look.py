"""Promise 8: lr_look, the four looks."""

import unittest

from helper import (
    ask, ask_behind, begin, enter, fill, given, last, let_go, line, look, look_active, look_heard, look_labels,
    look_waiting, replies, router_with, state, take, take_frame, take_gone, taken_back, way,
)

FAR = 2147483647
WRONG_WHATS = (-1, -2, -FAR - 1, 4, 5, FAR)
WRONG_ENDS = (-1, -2, -32, -FAR - 1, 32, 33, FAR)
WRONG_LINES = (-1, -2, -8, -FAR - 1, 8, 9, FAR)


class ActiveLabel(unittest.TestCase):
    def test_none_at_first(self):
        self.assertEqual(ask_behind([begin()], [look_active(f) for f in range(32)]), [-1] * 32)

    def test_each_ends_own(self):
        calls = [begin()] + [way(f, f % 9) for f in range(31, -1, -1)]
        self.assertEqual(ask_behind(calls, [look_active(f) for f in range(32)]), [47 - f for f in range(32)])

    def test_only_of_that_end(self):
        calls = [begin(), way(3, 8)]
        self.assertEqual(ask_behind(calls, [look_active(2), look_active(3), look_active(4)]), [-1, 16, -1])

    def test_whatever_line_is_named(self):
        calls = [begin(), line(1, 1), way(3, 8), take(2, given(3, 99))]
        self.assertEqual(ask_behind(calls, [look(0, 3, p) for p in range(8)]), [16] * 8)

    def test_none_where_its_taken_back(self):
        calls = [begin(), line(0, 1), way(3, 8), way(3, -1)]
        self.assertEqual(ask_behind(calls, [look_active(3), look_labels()]), [-1, 1])
        self.assertEqual(ask_behind([begin(), way(3, 8), way(3, -1)], [look_active(3)]), [-1])

    def test_the_active_one_where_others_are_taken_back(self):
        calls = [begin(), line(0, 1), way(3, 8), way(3, -1), way(3, 8), way(3, -1), way(3, 2)]
        self.assertEqual(ask_behind(calls, [look_active(3), look_labels()]), [18, 3])

    def test_it_stays_over_another_way(self):
        calls = [begin(), way(3, 8), way(3, 1), way(3, 7)]
        self.assertEqual(ask_behind(calls, [look_active(3)]), [16])

    def test_none_where_the_way_was_refused(self):
        self.assertEqual(ask_behind([begin(), way(3, 9), way(3, -2)], [look_active(3)]), [-1])


class HeardLabel(unittest.TestCase):
    UP = [begin(), line(1, 1), line(2, 1)]

    def test_none_at_first(self):
        for p in range(8):
            self.assertEqual(ask_behind([begin(), line(1, 1)], [look_heard(f, p) for f in range(32)]), [-1] * 32)

    def test_on_that_line_for_that_end(self):
        calls = self.UP + [take(1, given(3, 16)), take(2, given(3, 65535)), take(1, given(31, 256))]
        looks = [look_heard(3, 1), look_heard(3, 2), look_heard(31, 1), look_heard(31, 2), look_heard(3, 0)]
        self.assertEqual(ask_behind(calls, looks), [16, 65535, 256, -1, -1])

    def test_each_end_on_each_line(self):
        calls = [begin()] + [line(p, 1) for p in range(8)]
        calls += [take(p, given(f, 1000 * p + f + 16)) for p in range(8) for f in range(32)]
        looks = [look_heard(f, p) for p in range(8) for f in range(32)]
        self.assertEqual(ask_behind(calls, looks), [1000 * p + f + 16 for p in range(8) for f in range(32)])

    def test_the_last_one(self):
        calls = self.UP + [take(1, given(3, 77)), take(1, given(3, 76))]
        self.assertEqual(ask_behind(calls, [look_heard(3, 1)]), [76])

    def test_none_where_its_taken_back(self):
        calls = self.UP + [take(p, given(f, 77)) for p in (1, 2) for f in (3, 4)]
        looks = [look_heard(3, 1), look_heard(4, 1), look_heard(3, 2), look_heard(4, 2)]
        self.assertEqual(ask_behind(calls + [take(1, taken_back(3, 77))], looks), [-1, 77, 77, 77])
        self.assertEqual(ask_behind(calls + [take(1, taken_back(3, 78))], looks), [77, 77, 77, 77])

    def test_let_go_changes_nothing(self):
        calls = self.UP + [take(1, given(3, 77)), take(1, let_go(3, 77))]
        self.assertEqual(ask_behind(calls, [look_heard(3, 1)]), [77])

    def test_none_where_the_line_went_down(self):
        calls = self.UP + [take(1, given(3, 77)), take(2, given(3, 78))]
        looks = [look_heard(3, 1), look_heard(3, 2)]
        self.assertEqual(ask_behind(calls + [line(1, 0)], looks), [-1, 78])
        self.assertEqual(ask_behind(calls + [line(1, 1)], looks), [-1, 78])
        self.assertEqual(ask_behind(calls + fill(1, 256), looks), [77, 78])
        self.assertEqual(ask_behind(calls + fill(1, 257), looks), [-1, 78])

    def test_its_not_the_label_given_here(self):
        calls = self.UP + [way(3, 1), take(1, given(3, 77))]
        self.assertEqual(ask_behind(calls, [look_heard(3, 1), look_active(3)]), [77, 16])
        self.assertEqual(ask_behind(self.UP + [way(3, 1)], [look_heard(3, 1)]), [-1])


class FramesWaiting(unittest.TestCase):
    def test_none_at_first(self):
        self.assertEqual(ask_behind([begin()], [look_waiting(p) for p in range(8)]), [0] * 8)

    def test_messages_and_packets(self):
        calls = [begin(), line(1, 1), line(2, 1), way(3, 1), take(1, given(3, 77))]
        calls += [enter(3, [1])] * 4 + [take(2, taken_back(3, 77))] * 2
        self.assertEqual(ask_behind(calls, [look_waiting(p) for p in range(8)]), [0, 5, 3, 0, 0, 0, 0, 0])

    def test_whatever_end_is_named(self):
        calls = [begin(), line(7, 1), way(3, 8), way(4, 8)]
        self.assertEqual(ask_behind(calls, [look(2, f, 7) for f in range(32)]), [2] * 32)

    def test_one_less_where_one_was_taken(self):
        calls = [begin(), line(7, 1), way(3, 8), way(4, 8)]
        for more, left in (([take_frame(7)], 1), ([take_frame(7, 4)], 2), ([take_frame(7)] * 3, 0)):
            self.assertEqual(last(calls + more + [look_waiting(7)]), left)

    def test_up_to_256_and_then_none(self):
        for count, left in ((1, 1), (128, 128), (255, 255), (256, 256), (257, 0), (258, 0)):
            self.assertEqual(last([begin(), line(7, 1)] + fill(7, count) + [look_waiting(7)]), left)

    def test_packets_that_leave_here_arent_counted(self):
        calls = [begin(), line(0, 1), way(3, 8), take_frame(0)] + [enter(3, [1])] * 5
        self.assertEqual(ask_behind(calls, [look_waiting(p) for p in range(8)]), [0] * 8)


class LabelsGiven(unittest.TestCase):
    UP = [begin(), line(0, 1), line(1, 1)]

    def test_none_at_first(self):
        self.assertEqual(ask_behind([begin()], [look_labels()]), [0])
        self.assertEqual(ask_behind(self.UP + [take(0, given(3, 99))], [look_labels()]), [0])

    def test_each_active_one(self):
        calls = [begin()] + [call for f in range(32) for call in (way(f, 8), look_labels())]
        self.assertEqual(ask(calls)[2::2], list(range(1, 33)))

    def test_whatever_end_and_line_are_named(self):
        calls = [begin(), line(7, 1), way(3, 8), way(4, 8)]
        self.assertEqual(ask_behind(calls, [look(3, f, p) for f in (0, 3, 31) for p in range(8)]), [2] * 24)

    def test_one_taken_back_that_has_a_holder_is_counted(self):
        calls = self.UP + [way(3, 8), way(3, -1)]
        self.assertEqual(ask_behind(calls, [look_labels()]), [1])
        self.assertEqual(ask_behind(calls + [way(3, 8), way(3, -1), way(3, 8)], [look_labels()]), [3])

    def test_one_taken_back_that_nobody_holds_isnt(self):
        calls = [begin(), way(3, 8), way(4, 8), way(3, -1)]
        self.assertEqual(ask_behind(calls, [look_labels(), look_active(4)]), [1, 17])

    def test_its_free_when_the_last_one_let_it_go(self):
        calls = self.UP + [way(3, 8), way(3, -1), take(0, let_go(3, 16)), look_labels(), take(0, let_go(3, 16)),
                           look_labels(), take(1, let_go(3, 16)), look_labels()]
        self.assertEqual(ask(calls)[-5::2], [1, 1, 0])

    def test_its_free_when_the_last_one_went_down(self):
        calls = self.UP + [way(3, 8), way(3, -1), line(0, 0), look_labels(), line(1, 1), look_labels()]
        self.assertEqual(ask(calls)[-3::2], [1, 0])

    def test_let_go_of_an_active_one_or_for_another_end(self):
        calls = self.UP + [way(3, 8), take(0, let_go(3, 16)), take(1, let_go(3, 16)), way(3, -1), look_labels()]
        self.assertEqual(last(calls), 1)
        calls += [take(0, let_go(4, 16)), take(1, let_go(4, 16)), look_labels()]
        self.assertEqual(last(calls), 1)

    def test_an_active_one_that_nobody_holds_is_counted(self):
        self.assertEqual(ask_behind(self.UP + [way(3, 8), line(0, 0), line(1, 0)], [look_labels()]), [1])

    def test_a_refused_way_gives_none(self):
        self.assertEqual(ask_behind(self.UP + [way(3, 9), way(32, 8)], [look_labels()]), [0])


class Refusals(unittest.TestCase):
    # Everything that may be looked at is there, for each end and on each line.
    THERE = [begin()] + [line(p, 1) for p in range(8)] + [way(f, 8) for f in range(32)]
    THERE += [take(p, given(f, 99)) for p in range(8) for f in range(32)]

    def test_the_least_and_the_greatest_are_taken(self):
        looks = [look(what, f, p) for what in range(4) for f in (0, 31) for p in (0, 7)]
        told = [16, 16, 47, 47] + [99] * 4 + [32] * 8
        self.assertEqual(ask_behind(self.THERE, looks), told)

    def test_what_is_refused_out_of_range(self):
        looks = [look(what, f, p) for what in WRONG_WHATS for f in (0, 31, 32) for p in (0, 7, 8)]
        self.assertEqual(set(ask_behind(self.THERE, looks)), {-2})

    def test_f_is_refused_out_of_range_by_each_look(self):
        for what in range(4):
            looks = [look(what, f, p) for f in WRONG_ENDS for p in (0, 7)]
            self.assertEqual(set(ask_behind(self.THERE, looks)), {-2}, what)

    def test_p_is_refused_out_of_range_by_each_look(self):
        for what in range(4):
            looks = [look(what, f, p) for f in (0, 31) for p in WRONG_LINES]
            self.assertEqual(set(ask_behind(self.THERE, looks)), {-2}, what)

    def test_out_of_range_comes_before_none(self):
        looks = [look(0, 0, 8), look(0, 0, -1), look(1, 0, 8), look(1, 32, 0), look(0, 32, 0), look(4, 0, 0)]
        self.assertEqual(ask_behind([begin()], looks), [-2] * 6)


class NothingIsChanged(unittest.TestCase):
    def test_by_any_look(self):
        router = router_with(up=[0, 1, 2], ways=[(4, 0), (5, 8), (6, 8), (6, -1)])
        router.lr_take(0, given(4, 700))
        router.lr_enter(4, [1])
        router.lr_enter(5, [1])
        before = state(router)
        for what in range(-1, 5):
            for f in range(-1, 33):
                for p in range(-1, 9):
                    router.lr_look(what, f, p)
        self.assertEqual(state(router), before)

    def test_looks_between_other_calls(self):
        calls = [begin(), line(0, 1), way(4, 0), take(0, given(4, 700)), enter(4, [1]), way(5, 8), enter(5, [2]),
                 way(4, -1), take_frame(0), take_frame(0), take_gone(), way(6, 8), line(0, 0), way(7, 8), line(0, 1),
                 take_frame(0)]
        looks = [look(what, f, p) for what in range(-1, 5) for f in (4, 9, 32) for p in (0, 3, 8)]
        spread = []
        for call in calls:
            spread += [call] + looks
        self.assertEqual(replies(spread)[::1 + len(looks)], replies(calls))


if __name__ == "__main__":
    unittest.main()

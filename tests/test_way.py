"""Promise 2: lr_way, and the labels that it gives and takes back."""

import unittest

from bylabels.router import Router
from helper import (
    ask, begin, drain, given, labels, last, let_go, line, packet, queues, record_saying, router_with, state, take,
    taken_back, waiting, way,
)

TOO_LOW = (-1, -2, -2147483648)
FAR = 2147483647


def router_without_free_label(f=0):
    """All 1024 labels taken back and still held by line 0."""
    router = router_with(up=[0])
    for turn in range(1024):
        assert router.lr_way(f, 8) == 0
        assert router.lr_way(f, -1) == 0
        drain(router)
    return router


class Ranges(unittest.TestCase):
    def test_each_way_on_is_taken(self):
        for to in range(-1, 9):
            self.assertEqual(ask([begin(), way(5, to)]), [0, 0], to)
            router = Router()
            router.lr_way(5, to)
            self.assertEqual(router.ways, [-1] * 5 + [to] + [-1] * 26)

    def test_each_end_is_taken(self):
        self.assertEqual(ask([begin()] + [way(f, 8) for f in range(32)]), [0] * 33)

    def test_f_is_refused_out_of_range(self):
        for f in TOO_LOW + (32, 33, FAR):
            for to in (-1, 0, 8):
                self.assertEqual(last([begin(), way(f, to)]), -2, (f, to))

    def test_to_is_refused_out_of_range(self):
        for to in (-2, -3, -2147483648, 9, 10, FAR):
            for f in (0, 31):
                self.assertEqual(last([begin(), way(f, to)]), -2, (f, to))

    def test_nothing_is_done_where_its_refused(self):
        router = router_with(up=[0, 4], ways=[(3, 8), (31, 4)])
        before = state(router)
        for f, to in ((-1, 8), (32, 8), (-1, -1), (32, -1), (3, -2), (31, 9), (0, 9), (0, -2)):
            self.assertEqual(router.lr_way(f, to), -2)
            self.assertEqual(state(router), before)

    def test_nothing_is_said_where_its_refused(self):
        calls = [begin(), line(0, 1), way(-1, 8), way(32, 8), way(0, 9), way(0, -2)]
        self.assertEqual(waiting(calls, 0), 0)


class FromNoneToOne(unittest.TestCase):
    def test_the_least_label_is_active_for_the_end(self):
        for to in range(0, 9):
            router = Router()
            router.lr_way(7, to)
            self.assertEqual(labels(router), {16: (7, True, [])})

    def test_it_is_given_on_the_lines_that_are_up_from_0_on(self):
        router = router_with(up=[6, 0, 3])
        said = record_saying(router)
        router.lr_way(31, 2)
        self.assertEqual(said, [(0, given(31, 16)), (3, given(31, 16)), (6, given(31, 16))])
        self.assertEqual(labels(router), {16: (31, True, [0, 3, 6])})
        given_once = [given(31, 16)]
        self.assertEqual(queues(router), [given_once, [], [], given_once, [], [], given_once, []])

    def test_one_message_for_each_line_that_is_up(self):
        calls = [begin(), line(1, 1), line(7, 1), way(0, 8)]
        self.assertEqual([waiting(calls, p) for p in range(8)], [None, 1] + [None] * 5 + [1])

    def test_it_is_said_behind_what_waits(self):
        router = router_with(up=[0])
        router.lr_way(2, 8)
        router.lr_way(1, 8)
        self.assertEqual(router.lines[0].waiting, [given(2, 16), given(1, 17)])

    def test_labels_come_least_first(self):
        router = Router()
        for f in range(31, -1, -1):
            router.lr_way(f, 8)
        self.assertEqual(labels(router), {16 + at: (31 - at, True, []) for at in range(32)})

    def test_the_label_takes_packets_to_the_end(self):
        calls = [begin(), line(0, 1), take(0, given(3, 99)), way(9, 8), way(3, 0)]
        self.assertEqual(waiting(calls, 0), 2)
        self.assertEqual(waiting(calls + [take(0, packet(2, 17, [1]))], 0), 3)
        self.assertEqual(waiting(calls + [take(0, packet(2, 18, [1]))], 0), 2)


class FromOneToAnother(unittest.TestCase):
    def test_the_label_stays_and_nothing_is_said(self):
        router = router_with(up=[0, 5], ways=[(4, 0)])
        for to in (5, 7, 8, 8, 0):
            self.assertEqual(router.lr_way(4, to), 0)
            self.assertEqual(router.ways[4], to)
            self.assertEqual(labels(router), {16: (4, True, [0, 5])})
            self.assertEqual(queues(router), [[]] * 8)

    def test_nothing_more_waits(self):
        calls = [begin(), line(0, 1), way(4, 0), way(4, 8), way(4, 0), way(4, 0), way(4, 1)]
        self.assertEqual(waiting(calls, 0), 1)

    def test_packets_take_the_new_way(self):
        calls = [begin(), line(0, 1), line(1, 1), take(0, given(4, 50)), take(1, given(4, 60)), way(4, 0)]
        calls += [way(4, 1), take(0, packet(2, 16, [1]))]
        self.assertEqual([waiting(calls, 0), waiting(calls, 1)], [1, 2])


class FromOneToNone(unittest.TestCase):
    def test_it_is_said_on_all_holders_in_their_order(self):
        router = Router()
        router.lr_way(12, 3)
        for p in (5, 2, 7):
            router.lr_line(p, 1)
        self.assertEqual(labels(router), {16: (12, True, [5, 2, 7])})
        drain(router)
        said = record_saying(router)
        self.assertEqual(router.lr_way(12, -1), 0)
        self.assertEqual(said, [(p, taken_back(12, 16)) for p in (5, 2, 7)])
        self.assertEqual(labels(router), {16: (12, False, [5, 2, 7])})
        self.assertEqual(router.ways, [-1] * 32)
        said_once = [taken_back(12, 16)]
        self.assertEqual(queues(router), [[], [], said_once, [], [], said_once, [], said_once])

    def test_the_order_of_holders_lasts_over_down_and_up(self):
        router = router_with(up=[0, 1, 2], ways=[(0, 8)])
        router.lr_line(1, 0)
        router.lr_line(0, 1)
        router.lr_line(1, 1)
        self.assertEqual(labels(router), {16: (0, True, [2, 0, 1])})

    def test_one_message_more_for_each_holder(self):
        calls = [begin(), line(1, 1), line(7, 1), way(0, 8), way(0, -1)]
        self.assertEqual([waiting(calls, p) for p in (1, 7)], [2, 2])

    def test_only_the_ends_own_label_is_taken_back(self):
        router = router_with(up=[0], ways=[(1, 8), (2, 8), (3, 8)])
        router.lr_way(2, -1)
        self.assertEqual(labels(router), {16: (1, True, [0]), 17: (2, False, [0]), 18: (3, True, [0])})
        self.assertEqual(router.lines[0].waiting, [taken_back(2, 17)])
        self.assertEqual(router.ways[1:4], [8, -1, 8])

    def test_the_active_label_is_taken_back_not_one_taken_back_earlier(self):
        router = router_with(up=[0], ways=[(1, 8), (1, -1), (1, 8)])
        self.assertEqual(labels(router), {16: (1, False, [0]), 17: (1, True, [0])})
        router.lr_way(1, -1)
        self.assertEqual(router.lines[0].waiting, [taken_back(1, 17)])
        self.assertEqual(labels(router), {16: (1, False, [0]), 17: (1, False, [0])})

    def test_a_label_that_nobody_holds_is_free_at_once(self):
        router = Router()
        router.lr_way(1, 8)
        router.lr_way(1, -1)
        self.assertEqual(labels(router), {})

    def test_from_none_to_none_nothing_happens(self):
        router = router_with(up=[0], ways=[(1, 8), (1, -1)])
        before = state(router)
        self.assertEqual(router.lr_way(1, -1), 0)
        self.assertEqual(router.lr_way(2, -1), 0)
        self.assertEqual(state(router), before)
        self.assertEqual(waiting([begin(), line(0, 1), way(1, -1)], 0), 0)

    def test_packets_with_that_label_are_lost(self):
        calls = [begin(), line(0, 1), take(0, given(4, 50)), way(4, 0), way(4, -1), way(4, 0)]
        self.assertEqual(waiting(calls, 0), 3)
        self.assertEqual(waiting(calls + [take(0, packet(9, 16, [1]))], 0), 3)
        self.assertEqual(waiting(calls + [take(0, packet(9, 17, [1]))], 0), 4)


class FreeLabels(unittest.TestCase):
    def test_a_free_label_between_others_is_used_first(self):
        router = Router()
        for f in range(4):
            router.lr_way(f, 8)
        router.lr_way(2, -1)
        router.lr_way(1, -1)
        router.lr_way(9, 8)
        router.lr_way(10, 8)
        router.lr_way(11, 8)
        self.assertEqual(
            list(labels(router).items()),
            [(16, (0, True, [])), (19, (3, True, [])), (17, (9, True, [])), (18, (10, True, [])),
             (20, (11, True, []))],
        )

    def test_a_label_taken_back_that_has_a_holder_is_not_free(self):
        router = router_with(up=[0], ways=[(0, 8), (0, -1), (0, 8)])
        self.assertEqual(labels(router), {16: (0, False, [0]), 17: (0, True, [0])})

    def test_it_is_free_when_its_last_holder_let_it_go(self):
        router = router_with(up=[0, 1], ways=[(0, 8), (0, -1)])
        router.lr_take(0, let_go(0, 16))
        router.lr_way(1, 8)
        router.lr_take(1, let_go(0, 16))
        router.lr_way(2, 8)
        self.assertEqual(labels(router), {17: (1, True, [0, 1]), 16: (2, True, [0, 1])})

    def test_it_is_free_when_its_last_holder_goes_down(self):
        router = router_with(up=[0], ways=[(0, 8), (0, -1)])
        router.lr_line(0, 0)
        self.assertEqual(labels(router), {})

    def test_the_last_label_is_1039(self):
        router = router_with(up=[0])
        for turn in range(1023):
            router.lr_way(0, 8)
            router.lr_way(0, -1)
            drain(router)
        self.assertEqual(router.lr_way(6, 8), 0)
        self.assertEqual(labels(router)[1039], (6, True, [0]))
        self.assertEqual(router.lines[0].waiting, [[0, 1, 6, 4, 15]])
        self.assertEqual(len(labels(router)), 1024)

    def test_refused_where_no_label_is_free(self):
        router = router_without_free_label()
        router.lr_line(1, 1)
        before = state(router)
        for to in range(0, 9):
            self.assertEqual(router.lr_way(5, to), -1)
            self.assertEqual(state(router), before)

    def test_out_of_range_comes_before_no_label_free(self):
        router = router_without_free_label()
        for f, to in ((32, 8), (-1, 8), (5, 9), (5, -2)):
            self.assertEqual(router.lr_way(f, to), -2)

    def test_where_no_label_is_asked_for_none_need_be_free(self):
        router = router_with(up=[0], ways=[(9, 8)])
        for turn in range(1023):
            router.lr_way(0, 8)
            router.lr_way(0, -1)
            drain(router)
        self.assertEqual(router.lr_way(5, 8), -1)
        self.assertEqual(router.lr_way(5, -1), 0)
        self.assertEqual(router.lr_way(9, 4), 0)
        self.assertEqual(router.lr_way(9, -1), 0)
        self.assertEqual(router.lr_way(5, 8), -1)

    def test_a_label_let_go_is_given_again(self):
        router = router_without_free_label()
        router.lr_take(0, let_go(0, 600))
        self.assertEqual(router.lr_way(5, 8), 0)
        self.assertEqual(labels(router)[600], (5, True, [0]))
        self.assertEqual(router.lr_way(6, 8), -1)


if __name__ == "__main__":
    unittest.main()

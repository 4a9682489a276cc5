"""Promise 4: lr_take, its refusals and its messages."""

import unittest

from helper import (
    begin, drain, given, labels, last, let_go, line, packet, queues, router_with, state, take, taken_back, waiting,
    way,
)

UP = [begin(), line(0, 1)]

NO_SUCH_FRAMES = (
    [0],
    [0, 1],
    [0, 1, 0, 0],
    [0, 1, 0, 0, 16, 0],
    [0, 3, 0, 0, 16, 0],
    [0, 0, 0, 0, 16],
    [0, 4, 0, 0, 16],
    [0, 255, 0, 0, 16],
    [0, 1, 32, 0, 16],
    [0, 2, 32, 0, 16],
    [0, 3, 32, 0, 16],
    [0, 1, 255, 0, 16],
    [0, 1, 0, 0, 15],
    [0, 2, 0, 0, 15],
    [0, 3, 0, 0, 15],
    [0, 1, 0, 0, 0],
    [1],
    [1, 64],
    [1, 64, 0, 16],
    [2, 1, 0, 0, 16],
    [2, 64, 0, 16, 1, 1],
    [255, 1, 0, 0, 16],
    [3] * 1504,
    [0] * 1504,
)


class Refusals(unittest.TestCase):
    def test_p_is_refused_out_of_range(self):
        for p in (-1, -2, -2147483648, 8, 9, 2147483647):
            for frame in (given(0, 16), [], [7]):
                self.assertEqual(last(UP + [take(p, frame)]), -2, (p, frame))

    def test_n_is_refused_out_of_range(self):
        self.assertEqual(last(UP + [take(0, [])]), -2)
        self.assertEqual(last(UP + [take(0, [1] * 1504)]), 0)
        router = router_with(up=[0])
        self.assertEqual(router.lr_take(0, [1] * 1505), -2)
        self.assertEqual(router.lr_take(0, [1] * 1504), 0)

    def test_a_line_that_is_down(self):
        for frame in (given(0, 16), taken_back(0, 16), let_go(0, 16), packet(9, 16, [1])):
            self.assertEqual(last(UP + [take(1, frame)]), -1)
            self.assertEqual(last(UP + [line(0, 0), take(0, frame)]), -1)

    def test_none_of_the_forms(self):
        for frame in NO_SUCH_FRAMES:
            self.assertEqual(last(UP + [take(0, frame)]), -3, frame[:6])

    def test_the_edges_of_the_forms(self):
        for frame in ([0, 1, 31, 0, 16], [0, 2, 31, 0, 16], [0, 3, 31, 0, 16], [0, 1, 0, 255, 255], [0, 3, 0, 1, 0],
                      [1, 0, 0, 0, 0], [1, 255, 255, 255, 255], [1] * 1504):
            self.assertEqual(last(UP + [take(0, frame)]), 0, frame[:6])

    def test_out_of_range_comes_before_a_line_that_is_down(self):
        self.assertEqual(last([begin(), take(0, [])]), -2)
        self.assertEqual(last([begin(), take(8, given(0, 16))]), -2)
        self.assertEqual(last([begin(), take(-1, [])]), -2)

    def test_out_of_range_comes_before_none_of_the_forms(self):
        self.assertEqual(last(UP + [take(8, [0, 9])]), -2)
        self.assertEqual(router_with(up=[0]).lr_take(0, [3] * 1505), -2)

    def test_a_line_that_is_down_comes_before_none_of_the_forms(self):
        for frame in NO_SUCH_FRAMES:
            self.assertEqual(last([begin(), take(0, frame)]), -1, frame[:6])

    def test_nothing_is_done_where_its_refused(self):
        router = router_with(up=[0], ways=[(3, 0), (4, 8), (5, 8), (5, -1)])
        router.lr_take(0, given(3, 70))
        before = state(router)
        for frame in NO_SUCH_FRAMES:
            self.assertEqual(router.lr_take(0, frame), -3)
            self.assertEqual(state(router), before)
        for p, frame in ((8, given(3, 80)), (-8, given(3, 80)), (-1, packet(9, 17, [1])), (0, []), (0, [1] * 1505)):
            self.assertEqual(router.lr_take(p, frame), -2)
            self.assertEqual(state(router), before)
        for frame in (given(3, 80), taken_back(3, 70), let_go(5, 18), packet(9, 17, [1])):
            self.assertEqual(router.lr_take(1, frame), -1)
            self.assertEqual(state(router), before)

    def test_nothing_is_said_where_its_refused(self):
        self.assertEqual(waiting(UP + [take(0, frame) for frame in NO_SUCH_FRAMES], 0), 0)


class Given(unittest.TestCase):
    def test_heard_there_for_that_end(self):
        router = router_with(up=[0, 1])
        for end, label in ((0, 16), (31, 65535), (7, 256), (8, 1039), (9, 16)):
            self.assertEqual(router.lr_take(1, given(end, label)), 0)
        self.assertEqual(router.lines[1].heard, {0: 16, 31: 65535, 7: 256, 8: 1039, 9: 16})
        self.assertEqual(router.lines[0].heard, {})
        self.assertEqual(queues(router), [[]] * 8)

    def test_another_label_for_that_end_takes_its_place(self):
        router = router_with(up=[0])
        router.lr_take(0, given(4, 20))
        router.lr_take(0, given(4, 21))
        self.assertEqual(router.lines[0].heard, {4: 21})

    def test_nothing_waits_for_it(self):
        self.assertEqual(waiting(UP + [take(0, given(4, 20))], 0), 0)

    def test_it_makes_no_label_and_no_holder(self):
        router = router_with(up=[0], ways=[(4, 8)])
        router.lr_take(0, given(4, 16))
        router.lr_take(0, given(5, 17))
        self.assertEqual(labels(router), {16: (4, True, [0])})


class TakenBack(unittest.TestCase):
    def test_heard_there_it_is_not_any_more(self):
        router = router_with(up=[0, 1])
        for p in (0, 1):
            router.lr_take(p, given(4, 300))
            router.lr_take(p, given(5, 300))
        self.assertEqual(router.lr_take(0, taken_back(4, 300)), 0)
        self.assertEqual(router.lines[0].heard, {5: 300})
        self.assertEqual(router.lines[1].heard, {4: 300, 5: 300})
        self.assertEqual(queues(router), [[let_go(4, 300)]] + [[]] * 7)

    def test_another_label_heard_there_stays(self):
        router = router_with(up=[0])
        router.lr_take(0, given(4, 301))
        self.assertEqual(router.lr_take(0, taken_back(4, 300)), 0)
        self.assertEqual(router.lines[0].heard, {4: 301})
        self.assertEqual(router.lines[0].waiting, [let_go(4, 300)])

    def test_heard_for_another_end_stays(self):
        router = router_with(up=[0])
        router.lr_take(0, given(4, 300))
        router.lr_take(0, taken_back(5, 300))
        self.assertEqual(router.lines[0].heard, {4: 300})
        self.assertEqual(router.lines[0].waiting, [let_go(5, 300)])

    def test_not_heard_at_all_it_is_still_let_go(self):
        router = router_with(up=[0])
        self.assertEqual(router.lr_take(0, taken_back(31, 65535)), 0)
        self.assertEqual(router.lines[0].heard, {})
        self.assertEqual(router.lines[0].waiting, [let_go(31, 65535)])

    def test_one_frame_more_waits_each_time(self):
        self.assertEqual(waiting(UP + [take(0, given(1, 20))] + [take(0, taken_back(1, 20))] * 3, 0), 3)

    def test_the_answer_waits_behind_what_was_said_before(self):
        router = router_with(up=[0])
        router.lr_way(1, 8)
        router.lr_take(0, taken_back(1, 20))
        self.assertEqual(router.lines[0].waiting, [given(1, 16), let_go(1, 20)])

    def test_a_packet_finds_no_label_then(self):
        calls = UP + [take(0, given(3, 99)), way(3, 0)]
        send = [take(0, packet(9, 16, [1]))]
        self.assertEqual(waiting(calls + send, 0), 2)
        self.assertEqual(waiting(calls + [take(0, taken_back(3, 99))] + send, 0), 2)
        self.assertEqual(waiting(calls + [take(0, taken_back(3, 98))] + send, 0), 3)
        self.assertEqual(waiting(calls + [take(0, taken_back(2, 99))] + send, 0), 3)

    def test_labels_of_this_router_stay(self):
        router = router_with(up=[0], ways=[(4, 8), (5, 8), (5, -1)])
        router.lr_take(0, taken_back(4, 16))
        router.lr_take(0, taken_back(5, 17))
        self.assertEqual(labels(router), {16: (4, True, [0]), 17: (5, False, [0])})


class LetGo(unittest.TestCase):
    def setUp(self):
        self.router = router_with(up=[0, 1], ways=[(4, 8), (5, 8), (5, -1)])

    def test_taken_back_the_line_is_no_holder(self):
        self.assertEqual(self.router.lr_take(0, let_go(5, 17)), 0)
        self.assertEqual(labels(self.router), {16: (4, True, [0, 1]), 17: (5, False, [1])})

    def test_the_last_holder_makes_it_free(self):
        self.router.lr_take(1, let_go(5, 17))
        self.router.lr_take(0, let_go(5, 17))
        self.assertEqual(labels(self.router), {16: (4, True, [0, 1])})

    def test_for_another_end_nothing_happens(self):
        before = state(self.router)
        for end in (0, 4, 6, 31):
            self.assertEqual(self.router.lr_take(0, let_go(end, 17)), 0)
            self.assertEqual(state(self.router), before)

    def test_still_active_nothing_happens(self):
        before = state(self.router)
        self.assertEqual(self.router.lr_take(0, let_go(4, 16)), 0)
        self.assertEqual(state(self.router), before)

    def test_a_label_that_is_not_there_nothing_happens(self):
        before = state(self.router)
        for label in (18, 1039, 1040, 65535):
            self.assertEqual(self.router.lr_take(0, let_go(5, label)), 0)
            self.assertEqual(state(self.router), before)

    def test_by_a_line_that_is_no_holder_nothing_happens(self):
        self.router.lr_line(2, 1)
        drain(self.router)
        before = state(self.router)
        self.assertEqual(self.router.lr_take(2, let_go(5, 17)), 0)
        self.assertEqual(state(self.router), before)
        self.router.lr_take(0, let_go(5, 17))
        before = state(self.router)
        self.router.lr_take(0, let_go(5, 17))
        self.assertEqual(state(self.router), before)

    def test_what_was_heard_there_stays(self):
        self.router.lr_take(0, given(5, 17))
        self.router.lr_take(0, let_go(5, 17))
        self.assertEqual(self.router.lines[0].heard, {5: 17})

    def test_nothing_is_said(self):
        self.assertEqual(waiting(UP + [way(4, 8), way(4, -1), take(0, let_go(4, 16))], 0), 2)

    def test_the_label_is_used_anew(self):
        calls = UP + [take(0, given(3, 99)), way(4, 8), way(4, -1)]
        send = [way(3, 0), take(0, packet(9, 16, [1]))]
        self.assertEqual(waiting(calls + send, 0), 3)
        self.assertEqual(waiting(calls + [take(0, let_go(5, 16))] + send, 0), 3)
        self.assertEqual(waiting(calls + [take(0, let_go(4, 16))] + send, 0), 4)

    def test_let_go_ahead_of_the_taking_back_does_not_count(self):
        calls = UP + [take(0, given(3, 99)), way(4, 8), take(0, let_go(4, 16)), way(4, -1)]
        self.assertEqual(waiting(calls, 0), 2)
        self.assertEqual(waiting(calls + [way(3, 0), take(0, packet(9, 16, [1]))], 0), 3)


if __name__ == "__main__":
    unittest.main()

"""Promise 3: lr_line, down and up."""

import unittest

from helper import (
    ask, begin, fill_line, given, labels, last, line, packet, queues, router_with, state, take, taken_back, waiting,
    way,
)


class Ranges(unittest.TestCase):
    def test_each_line_is_taken(self):
        for p in range(8):
            for up in (0, 1):
                self.assertEqual(last([begin(), line(p, up)]), 0)

    def test_p_is_refused_out_of_range(self):
        for p in (-1, -2, -2147483648, 8, 9, 2147483647):
            for up in (0, 1):
                self.assertEqual(last([begin(), line(p, up)]), -2, (p, up))

    def test_nothing_is_done_where_its_refused(self):
        router = router_with(up=range(8), ways=[(0, 8)])
        fill_line(router, 7, 3)
        fill_line(router, 0, 3)
        before = state(router)
        for p in (-1, 8, -8):
            for up in (0, 1):
                self.assertEqual(router.lr_line(p, up), -2)
                self.assertEqual(state(router), before)

    def test_each_up_but_0_brings_the_line_up(self):
        for up in (1, 2, -1, 2147483647, -2147483648):
            self.assertEqual(waiting([begin(), line(3, up)], 3), 0, up)

    def test_up_0_brings_the_line_down(self):
        self.assertIsNone(waiting([begin(), line(3, 0)], 3))
        self.assertIsNone(waiting([begin(), line(3, 1), line(3, 0)], 3))

    def test_only_that_line(self):
        calls = [begin(), line(3, 1), line(4, 1), line(3, 0)]
        self.assertEqual([waiting(calls, p) for p in (2, 3, 4, 5)], [None, None, 0, None])


class Down(unittest.TestCase):
    def test_nothing_waits_nothing_was_heard_no_label_held(self):
        router = router_with(up=[1, 2], ways=[(0, 8), (5, 1)])
        router.lr_take(1, given(5, 44))
        router.lr_take(2, given(5, 45))
        fill_line(router, 1, 9)
        fill_line(router, 2, 9)
        self.assertEqual(router.lr_line(1, 0), 0)
        gone, other = router.lines[1], router.lines[2]
        self.assertEqual((gone.up, gone.heard, gone.waiting), (False, {}, []))
        self.assertEqual((other.up, other.heard, len(other.waiting)), (True, {5: 45}, 9))
        self.assertEqual(labels(router), {16: (0, True, [2]), 17: (5, True, [2])})

    def test_an_active_label_without_a_holder_stays(self):
        router = router_with(up=[1], ways=[(0, 8)])
        router.lr_line(1, 0)
        self.assertEqual(labels(router), {16: (0, True, [])})

    def test_taken_back_labels_are_free_when_it_held_them_alone(self):
        router = router_with(up=[1], ways=[(0, 8), (0, -1), (1, 8)])
        router.lr_line(2, 1)
        router.lr_way(1, -1)
        self.assertEqual(labels(router), {16: (0, False, [1]), 17: (1, False, [1, 2])})
        router.lr_line(1, 0)
        self.assertEqual(labels(router), {17: (1, False, [2])})
        router.lr_line(2, 0)
        self.assertEqual(labels(router), {})

    def test_nothing_is_said_to_a_line_that_is_down(self):
        router = router_with(up=[1])
        router.lr_line(1, 0)
        router.lr_way(0, 8)
        router.lr_way(0, -1)
        self.assertEqual(queues(router), [[]] * 8)

    def test_down_twice(self):
        self.assertEqual(ask([begin(), line(1, 1), line(1, 0), line(1, 0)]), [0, 0, 0, 0])


class Up(unittest.TestCase):
    def test_active_labels_are_given_anew_in_the_order_in_which_they_were_made(self):
        router = router_with(ways=[(9, 8), (4, 0), (30, 7), (2, 2)])
        router.lr_way(4, -1)
        router.lr_way(7, 1)
        self.assertEqual(list(labels(router)), [16, 18, 19, 17])
        router.lr_line(6, 1)
        said = [given(9, 16), given(30, 18), given(2, 19), given(7, 17)]
        self.assertEqual(router.lines[6].waiting, said)
        self.assertEqual([holders for end, active, holders in labels(router).values()], [[6]] * 4)

    def test_labels_taken_back_are_not_given(self):
        router = router_with(up=[0], ways=[(9, 8), (4, 8), (9, -1)])
        router.lr_line(1, 1)
        self.assertEqual(router.lines[1].waiting, [given(4, 17)])
        self.assertEqual(labels(router), {16: (9, False, [0]), 17: (4, True, [0, 1])})

    def test_no_label_none_given(self):
        self.assertEqual(waiting([begin(), line(0, 1)], 0), 0)

    def test_all_32_labels_are_given(self):
        calls = [begin()] + [way(f, 8) for f in range(32)] + [line(0, 1)]
        self.assertEqual(waiting(calls, 0), 32)

    def test_on_that_line_alone(self):
        calls = [begin(), line(1, 1), way(0, 8), line(0, 1)]
        self.assertEqual([waiting(calls, 0), waiting(calls, 1)], [1, 1])

    def test_up_again_goes_down_first(self):
        router = router_with(up=[1, 2], ways=[(0, 8), (0, -1), (5, 1), (6, 1)])
        router.lr_take(1, given(5, 44))
        fill_line(router, 1, 9)
        router.lr_take(2, [0, 3, 0, 0, 16])
        self.assertEqual(router.lr_line(1, 1), 0)
        again = router.lines[1]
        self.assertEqual((again.up, again.heard), (True, {}))
        self.assertEqual(again.waiting, [given(5, 17), given(6, 18)])
        self.assertEqual(labels(router), {17: (5, True, [2, 1]), 18: (6, True, [2, 1])})

    def test_up_again_only_what_is_active_waits(self):
        calls = [begin(), line(0, 1), way(0, 8), way(1, 8), way(0, -1)] + [take(0, taken_back(0, 16))] * 20
        self.assertEqual(waiting(calls, 0), 23)
        self.assertEqual(waiting(calls + [line(0, 1)], 0), 1)
        self.assertEqual(waiting(calls + [line(0, 0), line(0, 1)], 0), 1)

    def test_what_was_heard_before_is_gone_after_down_and_up(self):
        calls = [begin(), line(0, 1), take(0, given(3, 99)), way(3, 0)]
        send = [take(0, packet(9, 16, [1]))]
        self.assertEqual(waiting(calls + send, 0), 2)
        self.assertEqual(waiting(calls + [line(0, 0), line(0, 1)] + send, 0), 1)
        self.assertEqual(waiting(calls + [line(0, 1)] + send, 0), 1)

    def test_down_up_down_up(self):
        calls = [begin(), way(0, 8), line(0, 1), line(0, 0), way(1, 8), line(0, 1), line(0, 0), line(0, 1)]
        self.assertEqual(waiting(calls, 0), 2)


if __name__ == "__main__":
    unittest.main()

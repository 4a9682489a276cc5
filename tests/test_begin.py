"""Promise 1: lr_begin, and how a router is at first."""

import unittest

from bylabels.router import Router
from helper import ask, begin, given, last, line, packet, state, take, taken_back, waiting, way

AT_FIRST = ([-1] * 32, [], [(False, {}, [])] * 8, [])

BUSY = [
    begin(),
    line(0, 1),
    line(7, 1),
    way(3, 8),
    way(4, 7),
    way(3, -1),
    take(7, given(4, 500)),
    take(0, packet(9, 17, [1, 2])),
]


class Begin(unittest.TestCase):
    def test_begin_answers_0(self):
        self.assertEqual(ask([begin()]), [0])

    def test_at_first_nothing_is_there(self):
        self.assertEqual(state(Router()), AT_FIRST)

    def test_at_first_all_lines_are_down(self):
        for p in range(8):
            self.assertEqual(last([begin(), take(p, given(0, 16))]), -1)

    def test_begin_again_answers_0(self):
        self.assertEqual(ask(BUSY + [begin(), begin()])[-2:], [0, 0])

    def test_begun_anew_nothing_is_left(self):
        router = Router()
        router.lr_line(0, 1)
        router.lr_line(7, 1)
        router.lr_way(3, 8)
        router.lr_way(4, 7)
        router.lr_way(3, -1)
        router.lr_take(7, given(4, 500))
        router.lr_way(5, 8)
        router.lr_take(0, packet(9, 18, [1, 2]))
        router.lr_take(0, packet(9, 17, [1, 2]))
        before = state(router)
        for kept, first in zip(before, AT_FIRST):
            self.assertNotEqual(kept, first)
        self.assertEqual(router.lr_begin(), 0)
        self.assertEqual(state(router), AT_FIRST)

    def test_begun_anew_all_lines_are_down(self):
        for p in range(8):
            self.assertEqual(last(BUSY + [begin(), take(p, given(0, 16))]), -1)

    def test_begun_anew_no_label_is_given_on_a_line_that_comes_up(self):
        self.assertEqual(waiting(BUSY + [line(0, 1)], 0), 1)
        self.assertEqual(waiting(BUSY + [begin(), line(0, 1)], 0), 0)

    def test_begun_anew_the_least_label_is_free_again(self):
        calls = BUSY + [begin(), line(0, 1), take(0, given(3, 77)), way(3, 0)]
        self.assertEqual(waiting(calls, 0), 1)
        self.assertEqual(waiting(calls + [take(0, packet(9, 16, [1]))], 0), 2)

    def test_begun_anew_there_are_no_ways(self):
        # A way that was still there would be taken back and said, not left as it is.
        self.assertEqual(waiting(BUSY + [begin(), line(0, 1), way(4, -1)], 0), 0)

    def test_begun_anew_nothing_was_heard(self):
        calls = BUSY + [begin(), line(7, 1), way(4, 7), take(7, packet(9, 16, [1]))]
        self.assertEqual(waiting(calls, 7), 1)

    def test_begun_anew_nothing_waits(self):
        calls = [begin(), line(2, 1)] + [take(2, taken_back(0, 16))] * 200
        self.assertEqual(waiting(calls, 2), 200)
        self.assertEqual(waiting(calls + [begin(), line(2, 1)], 2), 0)


if __name__ == "__main__":
    unittest.main()

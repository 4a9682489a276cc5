"""The interface: how calls are handed in and how their answers are given back."""

import unittest

from bylabels.desk import UnknownCall, answers
from helper import begin, flat, given, line, packet, same, take, taken_back, way


class Desk(unittest.TestCase):
    def test_each_answer_is_its_size_and_its_number(self):
        self.assertEqual(answers([0]), [1, 0])
        self.assertEqual(answers([0, 1, 3, 8]), [1, 0, 1, 0])
        self.assertEqual(answers([0, 1, 3, 9]), [1, 0, 1, -2])
        self.assertEqual(answers([0, 2, 3, 1, 2, 8, 1]), [1, 0, 1, 0, 1, -2])
        self.assertEqual(answers([0, 3, 3, 5, 0, 1, 0, 0, 16]), [1, 0, 1, -1])
        self.assertEqual(answers([0, 2, 3, 1, 3, 3, 1, 9]), [1, 0, 1, 0, 1, -3])

    def test_an_answer_of_several_numbers_is_its_size_and_these(self):
        self.assertEqual(answers([0, 1, 3, 8, 4, 3, 2, 9, 8, 6, 3]), [1, 0, 1, 0, 1, 0, 4, 3, 3, 9, 8])
        self.assertEqual(answers([0, 2, 5, 1, 1, 3, 8, 5, 5, 5]), [1, 0, 1, 0, 1, 0, 6, 5, 0, 1, 3, 0, 16])

    def test_a_refusal_is_its_number_alone(self):
        self.assertEqual(answers([0, 5, 0, 9, 5, 8, 9, 6, 9, 6, 65537]), [1, 0, 1, -1, 1, -2, 1, -1, 1, -2])
        self.assertEqual(answers([0, 1, 3, 8, 4, 3, 1, 9, 6, 1]), [1, 0, 1, 0, 1, 0, 1, -5])
        self.assertEqual(answers([0, 2, 5, 1, 1, 3, 8, 5, 5, 4]), [1, 0, 1, 0, 1, 0, 1, -5])

    def test_enter_and_look_answer_one_number(self):
        self.assertEqual(answers([0, 4, 0, 1, 7, 4, 32, 1, 7, 4, 0, 0]), [1, 0, 1, 0, 1, -2, 1, -2])
        self.assertEqual(answers([0, 1, 3, 8, 7, 0, 3, 0, 7, 1, 3, 0, 7, 2, 3, 0, 7, 3, 3, 0, 7, 4, 3, 0]),
                         [1, 0, 1, 0, 1, 16, 1, -1, 1, 0, 1, 1, 1, -2])

    def test_calls_are_read_one_behind_another(self):
        told = answers([0, 2, 3, 1, 3, 3, 0, 1, 5, -1, 3, 3, 6, 1, 9, 0, 16, 1, 2, 3, 3, 2, 1, 0, 0, 1, 32, 0])
        self.assertEqual(told, [1, 0, 1, 0, 1, -2, 1, 0, 1, 0, 1, -3, 1, 0, 1, -2])

    def test_a_row_is_read_whole_where_the_call_is_refused(self):
        self.assertEqual(answers([0, 3, 8, 3, 0, 0, 0, 1, 0, 9]), [1, 0, 1, -2, 1, -2])

    def test_the_answers_are_whole_numbers_in_a_list(self):
        told = answers(flat([begin(), line(0, 1), way(3, 0), take(0, given(3, 16)), take(0, [4])]))
        self.assertIs(list, told.__class__)
        self.assertEqual({int}, {number.__class__ for number in told})

    def test_what_was_handed_in_stays_as_it_was(self):
        calls = flat([begin(), line(0, 1), way(3, 0), take(0, given(3, 16)), take(0, packet(9, 16, [1])),
                      take(0, taken_back(3, 16)), take(0, []), take(1, [1]), way(3, -1), begin()])
        before = list(calls)
        answers(calls)
        self.assertEqual(calls, before)

    def test_two_times_know_nothing_of_each_other(self):
        up = flat([begin(), line(0, 1), way(3, 8)])
        self.assertEqual(answers(up), [1, 0] * 3)
        self.assertEqual(answers(flat([begin(), take(0, given(3, 16))])), [1, 0, 1, -1])
        full = flat([begin(), line(0, 1)] + [take(0, taken_back(3, 16))] * 256 + [way(3, 8), take(0, [1])])
        self.assertTrue(same(answers(full), answers(full)))
        self.assertEqual(answers(full)[-2:], [1, -1])
        self.assertEqual(answers(up + flat([take(0, [9])])), [1, 0] * 3 + [1, -3])

    def test_the_longest_list_of_calls(self):
        calls = flat([begin()] + [way(at % 32, at % 10 - 1) for at in range(4199)])
        self.assertTrue(same(answers(calls), [1, 0] * 4200))

    def test_a_number_that_is_no_call(self):
        for call in (-1, 8, 99):
            with self.assertRaises(UnknownCall):
                answers([0, call])


if __name__ == "__main__":
    unittest.main()

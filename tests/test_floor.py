"""The interface, number by number as it is written."""

import unittest

from assemblyhall.floor import answers
from lines import flat, member, move, withdraw


class Written(unittest.TestCase):
    def test_each_call_and_its_answer(self):
        line = [
            0, 6, 3, 0, 1, 2, 3, 4, 0,
            1, 1, 10, 0,
            1, 1, 20, 0,
            2, 2, 1, 0, 0,
            2, 2, 1, 1, 0,
            3, 4, 0, 101, 102, 103, 0,
            6, 2, 1, 2, 0,
            4, 5, 1, 0, 1, 201, 202, 0,
            4, 3, 0, 0, 2, 0,
            5, 2, 1, 2, 0,
            7, 1, 1, 0,
        ]
        self.assertEqual(answers(line), [1, 0, 1, 0, 1, 1, 1, 0, 1, 0, 1, 0, 1, 2, 1, 1, 1, 2, 1, 3, 1, 0])

    def test_each_refusal_is_its_number_alone(self):
        line = [
            1, 1, 0, 0,
            2, 2, 0, 1, 0,
            1, 1, 1, 0,
            3, 1, 0, 0,
            4, 4, 0, 0, 0, 9, 0,
            5, 2, 0, 0, 0,
            6, 2, 0, 1, 0,
            7, 1, 0, 0,
            1, 1, 1, 0,
            3, 2, 1, 9, 0,
            7, 1, 0, 0,
            2, 2, 0, 0, 0,
            7, 1, 0, 0,
        ]
        self.assertEqual(answers(line), [1, -1, 1, -2, 1, 0, 1, -1, 1, -4, 1, -4, 1, -4, 1, -4, 1, 1, 1, 0, 1, -6,
                                         1, 0, 1, -3])

    def test_one_call_alone(self):
        self.assertEqual(answers([0, 6, 0, 0, 0, 0, 0, 0, 0]), [1, 0])
        self.assertEqual(answers([7, 1, 0, 0]), [1, -2])

    def test_nothing_is_kept_from_one_line_to_the_next(self):
        first = flat([member(5), move(0, [1, 2])])
        self.assertEqual(answers(first), [1, 0, 1, 0])
        self.assertEqual(answers(withdraw(0)), [1, -2])
        self.assertEqual(answers(first), [1, 0, 1, 0])

    def test_answers_may_be_changed_without_harm(self):
        line = flat([member(5), move(0, [1, 2])])
        told = answers(line)
        told.clear()
        self.assertEqual(answers(line), [1, 0, 1, 0])

    def test_a_hundred_long_calls(self):
        line = flat([member(1)] + [move(0, [4294967295] * 40)] * 99)
        self.assertEqual(answers(line), [1, 0] + [1, -1] * 99)


if __name__ == "__main__":
    unittest.main()

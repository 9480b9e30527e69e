"""The interface, number by number as it is written."""

import unittest

from assemblyhall.floor import answers
from lines import (BIG, amend, asked, divide, flat, go, member, members, move, passed, split, take, text, vote, votes,
                   who, withdraw)


class Written(unittest.TestCase):
    def test_each_call_and_its_answer(self):
        line = [
            0, 6, 3, 0, 1, 2, 3, 4, 0,
            1, 1, 10, 0,
            1, 1, 20, 0,
            2, 2, 1, 0, 0,
            2, 2, 1, 1, 0,
            3, 4, 0, 101, 102, 103, 0,
            6, 2, 1, 2, 0,
            4, 5, 1, 0, 1, 201, 202, 0,
            4, 3, 0, 0, 2, 0,
            5, 2, 1, 2, 0,
            7, 1, 1, 0,
        ]
        self.assertEqual(answers(line), [1, 0, 1, 0, 1, 1, 1, 0, 1, 0, 1, 0, 1, 2, 1, 1, 1, 2, 1, 3, 1, 0])

    def test_each_call_from_take_to_votes_and_its_answer(self):
        line = [
            1, 1, 10, 0,
            1, 1, 20, 0,
            1, 1, 30, 0,
            3, 3, 0, 101, 102, 0,
            4, 5, 1, 1, 2, 201, 202, 0,
            4, 4, 2, 1, 1, 301, 0,
            5, 2, 1, 2, 0,
            10, 0, 0,
            9, 5, 0, 2, 2, 0, 1, 0,
            10, 0, 0,
            8, 2, 1, 0, 0,
            11, 0, 0,
            9, 4, 1, 1, 2, 1, 0,
            9, 4, 0, 2, 1, 0, 0,
            9, 3, 0, 1, 0, 0,
            12, 1, 0, 0,
            13, 2, 0, 0, 0,
            13, 2, 0, 1, 0,
            13, 2, 0, 2, 0,
            14, 0, 0,
        ]
        self.assertEqual(answers(line), [
            1, 0, 1, 1, 1, 2, 1, 0, 1, 1, 1, 2, 1, 3,
            3, 6, 3, 1,
            3, 1, 40, 20,
            1, 0,
            1, 3,
            15, 1, 2, 101, 102, 1, 1, 2, 2, 201, 202, 1, 1, 1, 1, 301,
            3, 1, 30, 20,
            3, 1, 30, 0,
            3, 1, 10, 0,
            5, 4, 101, 201, 301, 202,
            3, 0, 0, 0,
            4, 1, 1, 1, 0,
            3, 2, 2, 2,
            13, 4, 3, 6, 1, 2, 3, 1, 1, 2, 1, 0, 1, 1,
        ])

    def test_those_for_it_stand_first(self):
        hall = [1, 1, 1, 0, 1, 1, 2, 0, 1, 1, 4, 0, 3, 2, 0, 9, 0]
        self.assertEqual(answers(hall + [9, 5, 0, 0, 0, 1, 2, 0])[-4:], [3, 0, 0, 7])
        self.assertEqual(answers(hall + [9, 5, 0, 1, 2, 1, 0, 0])[-4:], [3, 1, 4, 3])
        self.assertEqual(answers(hall + [9, 5, 0, 2, 1, 0, 2, 0])[-4:], [3, 0, 3, 4])
        self.assertEqual(answers(hall + [9, 5, 0, 3, 0, 1, 2, 0])[-4:], [3, 1, 7, 0])
        self.assertEqual(answers(hall + [9, 2, 2, 0, 0])[-4:], [3, 0, 0, 0])

    def test_refusals_from_take_to_who(self):
        line = [
            8, 2, 0, 0, 0,
            9, 2, 0, 0, 0,
            10, 0, 0,
            11, 0, 0,
            12, 1, 0, 0,
            13, 2, 0, 0, 0,
            14, 0, 0,
            1, 1, 1, 0,
            3, 2, 0, 9, 0,
            9, 3, 3, 1, 0, 0,
            9, 3, 0, 1, 1, 0,
            2, 2, 0, 0, 0,
            9, 3, 0, 1, 0, 0,
            9, 2, 0, 0, 0,
            8, 2, 0, 0, 0,
        ]
        self.assertEqual(answers(line), [1, -2, 1, -4, 1, 0, 1, -4, 1, -6, 1, -6, 1, 0, 1, 0, 1, 0, 1, -1, 1, -2, 1, 0,
                                         1, -3, 1, -7, 1, -3])

    def test_each_refusal_is_its_number_alone(self):
        line = [
            1, 1, 0, 0,
            2, 2, 0, 1, 0,
            1, 1, 1, 0,
            3, 1, 0, 0,
            4, 4, 0, 0, 0, 9, 0,
            5, 2, 0, 0, 0,
            6, 2, 0, 1, 0,
            7, 1, 0, 0,
            1, 1, 1, 0,
            3, 2, 1, 9, 0,
            7, 1, 0, 0,
            2, 2, 0, 0, 0,
            7, 1, 0, 0,
        ]
        self.assertEqual(answers(line), [1, -1, 1, -2, 1, 0, 1, -1, 1, -4, 1, -4, 1, -4, 1, -4, 1, 1, 1, 0, 1, -6,
                                         1, 0, 1, -3])

    def test_one_call_alone(self):
        self.assertEqual(answers([0, 6, 0, 0, 0, 0, 0, 0, 0]), [1, 0])
        self.assertEqual(answers([7, 1, 0, 0]), [1, -2])

    def test_nothing_is_kept_from_one_line_to_the_next(self):
        first = flat([member(5), move(0, [1, 2])])
        self.assertEqual(answers(first), [1, 0, 1, 0])
        self.assertEqual(answers(withdraw(0)), [1, -2])
        self.assertEqual(answers(first), [1, 0, 1, 0])

    def test_answers_may_be_changed_without_harm(self):
        line = flat([member(5), move(0, [1, 2])])
        told = answers(line)
        told.clear()
        self.assertEqual(answers(line), [1, 0, 1, 0])

    def test_a_hundred_long_calls(self):
        line = flat([member(1)] + [move(0, [4294967295] * 40)] * 99)
        self.assertEqual(answers(line), [1, 0] + [1, -1] * 99)

    def test_a_hundred_calls_of_every_sort(self):
        opening = [member(1), member(1)]
        # Over and over: a text is put off, taken up, amended, divided, and both its parts are passed.
        round_of_calls = [move(0, [5, 6]), amend(1, 2, 2, [7]), go(0, 2), vote([0]), take(1, 0), vote([1, 0]),
                          divide(0, 1), vote([0]), vote([1]), asked(), text(), withdraw(0)]
        closing = [passed(13), passed(14), who(13, 1), votes()]
        line = flat(opening + round_of_calls * 7 + closing + [votes()] * 10)
        before = list(line)
        given = answers(line)
        self.assertEqual(line, before)
        self.assertEqual(answers(line), given)
        rows = split(given)
        self.assertEqual(len(rows), 100)
        self.assertEqual(rows[:2], [[0], [1]])
        for number in range(7):
            first = 3 * number
            start = 2 + 12 * number
            self.assertEqual(rows[start:start + 12], [
                [first], [first + 1], [first + 2], [1, 1, 0], [2], [1, 2, 0], [2], [1, 1, 0], [1, 1, 0], [0], [-4],
                [-4]])
        taken = flat([[first + 2, 6, 1, first + 1, 2, 1, first, 1, 1, first, 1, 1] for first in range(0, 21, 3)])
        self.assertEqual(rows[86:90], [[2, 6, 7], [-6], [19, 1, 1, 0], [28, *taken]])
        self.assertEqual(rows[90:], [[28, *taken]] * 10)

    def test_votes_with_forty_members_a_hundred_times(self):
        line = flat([*[step[0] for step in members(1, 1)], move(0, [5])] + [vote([BIG] * 20, [BIG] * 20)] * 97)
        self.assertEqual(answers(line), [1, 0, 1, 1, 1, 0] + [1, -2] * 97)


if __name__ == "__main__":
    unittest.main()

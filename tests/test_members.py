import unittest

from lines import BIG, LineCase, begins, comes, member, move


class Member(LineCase):
    def test_numbers_go_up_from_0(self):
        self.check((member(5), 0), (member(5), 1), (member(7), 2))

    def test_weight_is_1_to_100(self):
        self.check((member(0), -1), (member(1), 0), (member(100), 1), (member(101), -1),
                   (member(BIG), -1), (member(50), 2))

    def test_20_members_at_the_most(self):
        twenty = [(member(number + 1), number) for number in range(20)]
        self.check(*twenty, (member(1), -5), (comes(19, 0), 0), (comes(20, 0), -2))

    def test_a_wrong_weight_counts_before_20_members(self):
        twenty = [(member(1), number) for number in range(20)]
        self.check(*twenty, (member(0), -1), (member(101), -1), (member(100), -5))


class Comes(LineCase):
    def test_goes_away_and_comes_back(self):
        self.check((member(), 0), (comes(0, 1), 0), (comes(0, 0), 0), (move(0, [1]), -3),
                   (comes(0, 0), 0), (move(0, [1]), -3), (comes(0, 1), 0), (move(0, [1]), 0))

    def test_only_that_member_is_away(self):
        self.check((member(), 0), (member(), 1), (comes(1, 0), 0), (move(1, [1]), -3), (move(0, [1]), 0))

    def test_no_such_member(self):
        self.check((comes(0, 0), -2), (member(), 0), (comes(1, 0), -2), (comes(BIG, 1), -2), (move(0, [1]), 0))


class Begins(LineCase):
    def test_answers_0_whatever_the_rules(self):
        self.check((begins(), 0), (begins(0, 4, 3, 2, 1, 0), 0), (begins(BIG, 0, 1, 2, 3, 4), 0))

    def test_in_the_midst_of_a_line_all_is_new(self):
        self.check((member(3), 0), (member(3), 1), (comes(0, 0), 0), (move(1, [7, 8]), 0),
                   (begins(2), 0),
                   (comes(0, 1), -2), (move(1, [7]), -2), (member(3), 0), (move(0, [9]), 0))

    def test_20_members_again(self):
        twenty = [(member(1), number) for number in range(20)]
        self.check(*twenty, (member(1), -5), (begins(), 0), *twenty, (member(1), -5))


if __name__ == "__main__":
    unittest.main()

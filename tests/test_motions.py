import unittest

from lines import (BACK, BIG, CLOSE, OFF, LineCase, amend, begins, comes, divide, go, member, move, numbered, told,
                   text, vote, withdraw)

BOTH = ((member(), 0), (member(), 1))
MOVED = (*BOTH, (move(0, [11, 12, 13]), 0))


class Move(LineCase):
    def test_a_main_motion(self):
        self.check(*BOTH, (move(1, [5, 5, 6]), 0), (withdraw(1), 0), (move(0, [7]), 1))

    def test_how_many_words(self):
        self.check(*BOTH, (move(0, []), -1), (move(0, numbered(1, 31)), -1), (move(0, numbered(1, 40)), -1),
                   (move(0, [3]), 0), (withdraw(0), 0), (move(0, numbered(1, 30)), 1),
                   (divide(0, 30), -1), (divide(0, 29), 2))

    def test_which_words(self):
        self.check(*BOTH, (move(0, [0]), -1), (move(0, [1, 2, 0]), -1), (move(0, [100000]), -1),
                   (move(0, [100000, 1]), -1), (move(0, [BIG]), -1), (move(0, [1, 99999]), 0))

    def test_no_such_member_counts_first(self):
        self.check((move(0, [1]), -2), (move(0, []), -2), *BOTH, (move(2, [0]), -2),
                   (move(0, [1]), 0), (move(2, [1]), -2), (move(2, []), -2), (move(BIG, [1]), -2))

    def test_away_counts_before_the_words_and_what_is_there(self):
        self.check(*BOTH, (comes(1, 0), 0), (move(1, []), -3), (move(1, [0]), -3), (move(0, [4]), 0),
                   (move(1, [4]), -3), (move(1, numbered(1, 31)), -3))

    def test_wrong_words_count_before_what_is_there(self):
        self.check(*MOVED, (move(1, []), -1), (move(1, [0]), -1), (move(1, numbered(1, 31)), -1), (move(1, [1]), -4))

    def test_one_main_motion_at_a_time(self):
        self.check(*MOVED, (move(1, [1]), -4), (move(0, [1]), -4), (withdraw(1), -6), (withdraw(0), 0),
                   (move(1, [1]), 1), (withdraw(0), -6), (withdraw(1), 0))

    def test_parts_to_come_are_before_the_assembly(self):
        self.check(*MOVED, (divide(0, 1), 2), (withdraw(0), 0), (move(0, [1]), -4), (withdraw(0), 0), (move(0, [1]), 1))


class Amend(LineCase):
    def test_an_amendment_then_one_to_it_then_no_more(self):
        self.check(*MOVED, (amend(1, 0, 2, [21, 22, 23, 24]), 1), (amend(0, 4, 4, [31]), 2), (amend(0, 0, 1, []), -4),
                   (withdraw(1), -6), (withdraw(0), 0), (withdraw(0), -6), (withdraw(1), 0), (withdraw(1), -6),
                   (withdraw(0), 0), (withdraw(0), -4))

    def test_places_of_the_text(self):
        for i, j, words in ((0, 0, [1]), (0, 3, []), (1, 2, [1, 2]), (2, 3, []), (3, 3, [1])):
            with self.subTest(i=i, j=j):
                self.check(*MOVED, (amend(1, i, j, words), 1), (withdraw(1), 0))
        for i, j, words in ((2, 1, [1]), (1, 0, []), (0, 4, [1]), (3, 4, []), (4, 4, [1]), (4, 3, [1]),
                            (0, 0, []), (1, 1, []), (3, 3, []), (0, BIG, [1]), (BIG, BIG, [1]), (BIG, 0, [1])):
            with self.subTest(i=i, j=j):
                self.check(*MOVED, (amend(1, i, j, words), -1), (amend(1, 0, 1, [1]), 1))

    def test_places_of_the_amendment(self):
        under = (*MOVED, (amend(1, 3, 3, [21, 22, 23, 24]), 1))
        for i, j, words in ((0, 0, [1]), (0, 4, []), (3, 4, [1, 2]), (4, 4, [1])):
            with self.subTest(i=i, j=j):
                self.check(*under, (amend(0, i, j, words), 2), (withdraw(0), 0))
        for i, j, words in ((0, 5, [1]), (5, 5, [1]), (4, 3, [1]), (4, 4, []), (0, 0, [])):
            with self.subTest(i=i, j=j):
                self.check(*under, (amend(0, i, j, words), -1), (amend(0, 4, 4, [1]), 2))

    def test_an_amendment_without_words_may_be_given_some(self):
        self.check(*MOVED, (amend(1, 0, 3, []), 1), (amend(0, 0, 1, [5]), -1), (amend(0, 0, 0, []), -1),
                   (amend(0, 0, 0, [5]), 2))

    def test_words(self):
        self.check(*MOVED, (amend(1, 0, 1, [0]), -1), (amend(1, 0, 1, [1, 100000]), -1), (amend(1, 0, 1, [BIG]), -1),
                   (amend(1, 0, 1, numbered(1, 31)), -1), (amend(1, 0, 1, numbered(1, 40)), -1),
                   (amend(1, 0, 1, [1, 99999]), 1), (amend(1, 0, 2, [0]), -1), (amend(1, 0, 2, numbered(1, 31)), -1),
                   (amend(1, 0, 2, numbered(1, 30)), 2))

    def test_60_words_may_come_of_it(self):
        self.check(*BOTH, (move(0, numbered(1, 30)), 0), (amend(0, 30, 30, numbered(1, 30)), 1),
                   (amend(0, 0, 0, numbered(1, 30)), 2))

    def test_about_the_part_that_is_there(self):
        self.check(*MOVED, (divide(1, 2), 2), (amend(1, 0, 3, [1]), -1), (amend(1, 2, 2, [1]), 1), (withdraw(1), 0),
                   (withdraw(0), 0), (amend(1, 0, 2, [1]), -1), (amend(1, 0, 1, [1]), 2))

    def test_the_member_counts_first(self):
        self.check((amend(0, 0, 0, [1]), -2), *BOTH, (amend(2, 0, 0, [0]), -2), (comes(1, 0), 0),
                   (amend(1, 0, 0, [1]), -3), (amend(1, 0, 0, [0]), -3), (move(0, [1]), 0), (amend(2, 0, 0, [1]), -2),
                   (amend(1, 0, 0, [0]), -3), (amend(1, 1, 0, [1]), -3), (go(0, CLOSE), 1), (amend(1, 0, 0, [1]), -3),
                   (amend(2, 0, 0, [1]), -2))

    def test_nothing_there_counts_before_wrong_words_and_places(self):
        self.check(*BOTH, (amend(0, 0, 0, [1]), -4), (amend(0, 0, 0, [0]), -4), (amend(0, 0, 0, numbered(1, 31)), -4),
                   (amend(0, 1, 0, [1]), -4), (amend(0, 0, 0, []), -4))

    def test_a_way_on_counts_behind_words_and_before_places(self):
        for how in (BACK, CLOSE, OFF):
            with self.subTest(how=how):
                self.check(*MOVED, (go(0, how), 1), (amend(1, 0, 1, [1]), -4), (amend(1, 0, 1, [0]), -1),
                           (amend(1, 0, 1, [100000]), -1), (amend(1, 0, 1, numbered(1, 31)), -1),
                           (amend(1, 2, 1, [1]), -4), (amend(1, 0, 9, [1]), -4), (amend(1, 1, 1, []), -4),
                           (withdraw(0), 0), (amend(1, 0, 1, [1]), 2))

    def test_an_amendment_to_the_amendment_counts_behind_words_and_before_places(self):
        self.check(*MOVED, (amend(1, 0, 0, [1]), 1), (amend(1, 0, 0, [1]), 2), (amend(0, 0, 0, [1]), -4),
                   (amend(0, 0, 0, [0]), -1), (amend(0, 0, 0, numbered(1, 31)), -1), (amend(0, 1, 0, [1]), -4),
                   (amend(0, 0, 9, [1]), -4), (amend(0, 0, 0, []), -4), (withdraw(1), 0), (amend(0, 0, 0, [1]), 3))


class MostWords(LineCase):
    def test_60_words_of_the_text(self):
        self.check(*BOTH, (move(0, numbered(1, 30)), 0), (amend(0, 30, 30, numbered(101, 30)), 1),
                   (vote([0]), [1, 1, 0]), (text(), told(numbered(1, 30) + numbered(101, 30))),
                   (amend(0, 60, 60, [7]), -5), (amend(0, 0, 1, [7, 8]), -5), (amend(0, 30, 59, numbered(1, 30)), -5),
                   (amend(0, 61, 61, [7]), -1), (amend(0, 1, 0, [7]), -1), (amend(0, 60, 60, numbered(1, 31)), -1),
                   (comes(1, 0), 0), (amend(1, 60, 60, [7]), -3), (amend(2, 60, 60, [7]), -2),
                   (amend(0, 30, 60, numbered(1, 30)), 2))

    def test_a_motion_out_of_order_counts_before_60_words(self):
        self.check(*BOTH, (move(0, numbered(1, 30)), 0), (amend(0, 30, 30, numbered(101, 30)), 1),
                   (vote([0]), [1, 1, 0]), (go(0, OFF), 2), (amend(0, 60, 60, [7]), -4), (withdraw(0), 0),
                   (amend(0, 60, 60, [7]), -5))

    def test_60_words_of_the_amendment(self):
        self.check(*BOTH, (move(0, [5]), 0), (amend(0, 0, 1, numbered(1, 30)), 1),
                   (amend(0, 15, 15, numbered(101, 30)), 2), (vote([0]), [1, 1, 0]),
                   (amend(0, 60, 60, [7]), -5), (amend(0, 15, 16, [7, 8]), -5), (amend(0, 61, 61, [7]), -1),
                   (amend(0, 15, 45, numbered(201, 30)), 3), (vote([0]), [1, 1, 0]),
                   (text(), told([5], amendment=(0, 1, numbered(1, 15) + numbered(201, 30) + numbered(16, 15)))))

    def test_an_amendment_to_the_amendment_is_counted_by_the_words_of_that(self):
        ninety = numbered(1, 30) + numbered(101, 30) + numbered(201, 30)
        self.check(*BOTH, (move(0, numbered(1, 30)), 0), (amend(0, 30, 30, numbered(101, 30)), 1),
                   (amend(0, 30, 30, numbered(201, 30)), 2), (vote([0]), [1, 1, 0]), (vote([0]), [1, 1, 0]),
                   (text(), told(ninety)), (amend(0, 0, 29, []), -5), (amend(0, 0, 30, []), 3),
                   (vote([0]), [1, 1, 0]), (text(), told(ninety[30:])))


class Go(LineCase):
    def test_each_ranks_higher_than_those_that_are_there(self):
        self.check(*MOVED, (go(1, BACK), 1), (go(1, BACK), -4), (go(0, CLOSE), 2), (go(1, BACK), -4),
                   (go(1, CLOSE), -4), (go(1, OFF), 3), (go(1, BACK), -4), (go(1, CLOSE), -4), (go(1, OFF), -4),
                   (withdraw(0), -6), (withdraw(1), 0), (withdraw(1), -6), (withdraw(0), 0), (withdraw(0), -6),
                   (withdraw(1), 0), (withdraw(1), -6), (withdraw(0), 0))

    def test_a_higher_one_first(self):
        self.check(*MOVED, (go(1, OFF), 1), (go(0, BACK), -4), (go(0, CLOSE), -4), (go(0, OFF), -4), (withdraw(1), 0),
                   (go(1, CLOSE), 2), (go(0, BACK), -4), (go(0, CLOSE), -4), (go(0, OFF), 3))

    def test_back_and_off_without_close(self):
        self.check(*MOVED, (go(1, BACK), 1), (go(1, OFF), 2), (go(1, CLOSE), -4), (withdraw(1), 0), (go(1, CLOSE), 3))

    def test_amendments_may_be_there(self):
        self.check(*MOVED, (amend(1, 0, 0, [1]), 1), (amend(1, 0, 0, [1]), 2), (go(0, BACK), 3), (withdraw(1), -6),
                   (withdraw(0), 0), (withdraw(0), -6), (withdraw(1), 0), (go(0, OFF), 4))

    def test_refusals_in_their_order(self):
        self.check((go(0, BACK), -2), *BOTH, (go(0, OFF), -4), (go(2, OFF), -2), (comes(1, 0), 0), (go(1, OFF), -3),
                   (move(0, [1]), 0), (go(0, OFF), 1), (go(1, OFF), -3), (go(2, OFF), -2), (go(BIG, OFF), -2),
                   (go(0, OFF), -4))


class Divide(LineCase):
    def test_the_places_that_are_allowed(self):
        self.check(*MOVED, (divide(1, 0), -1), (divide(1, 3), -1), (divide(1, 4), -1), (divide(1, BIG), -1),
                   (divide(1, 2), 2), (divide(1, 2), -1), (divide(1, 1), 3), (divide(1, 1), -1))

    def test_a_text_of_one_word(self):
        self.check(*BOTH, (move(0, [1]), 0), (divide(0, 0), -1), (divide(0, 1), -1), (withdraw(0), 0),
                   (withdraw(0), -4))

    def test_the_next_part_comes_ahead_of_those_to_come(self):
        # The parts are of 1, 2 and 4 words, which the places that may be amended tell.
        self.check(*BOTH, (move(0, numbered(1, 7)), 0), (divide(1, 3), 2), (divide(1, 1), 3),
                   (amend(1, 0, 2, []), -1), (amend(1, 0, 1, []), 1), (withdraw(1), 0),
                   (withdraw(1), -6), (withdraw(0), 0),
                   (amend(1, 0, 3, []), -1), (amend(1, 0, 2, []), 2), (withdraw(1), 0), (withdraw(0), 0),
                   (amend(1, 0, 5, []), -1), (amend(1, 0, 4, []), 3), (withdraw(1), 0), (withdraw(0), 0),
                   (withdraw(0), -4), (move(1, [1]), 4))

    def test_four_parts(self):
        # Of 1, 2, 3 and 4 words.
        self.check(*BOTH, (move(0, numbered(1, 10)), 0), (divide(1, 6), 2), (divide(1, 3), 3), (divide(1, 1), 4),
                   (divide(1, 1), -1), (withdraw(0), 0),
                   (amend(1, 3, 3, [1]), -1), (amend(1, 2, 2, [1]), 1), (withdraw(1), 0), (withdraw(0), 0),
                   (amend(1, 4, 4, [1]), -1), (amend(1, 3, 3, [1]), 2), (withdraw(1), 0), (withdraw(0), 0),
                   (amend(1, 5, 5, [1]), -1), (amend(1, 4, 4, [1]), 3), (withdraw(1), 0), (withdraw(0), 0),
                   (divide(1, 1), -4))

    def test_how_many_parts_there_are_when_some_are_done_with(self):
        self.check(*BOTH, (move(0, numbered(1, 7)), 0), (divide(0, 3), 2), (divide(0, 1), 3), (withdraw(0), 0),
                   (divide(0, 1), 3), (withdraw(0), 0), (withdraw(0), 0), (divide(0, 4), -1), (divide(0, 3), 2),
                   (withdraw(0), 0), (withdraw(0), 0), (divide(0, 1), -4))

    def test_only_while_the_main_motion_is_asked(self):
        for other in (amend(1, 0, 1, []), go(1, BACK), go(1, CLOSE), go(1, OFF)):
            with self.subTest(other=other):
                self.check(*MOVED, (other, 1), (divide(0, 1), -4), (divide(0, 0), -4), (divide(0, 3), -4),
                           (withdraw(1), 0), (divide(0, 1), 2))

    def test_not_while_an_amendment_to_the_amendment_is_asked(self):
        self.check(*MOVED, (amend(1, 0, 1, [1]), 1), (amend(1, 0, 1, [2]), 2), (divide(0, 1), -4), (withdraw(1), 0),
                   (divide(0, 1), -4), (withdraw(1), 0), (divide(0, 1), 2))

    def test_refusals_in_their_order(self):
        self.check((divide(0, 0), -2), *BOTH, (divide(0, 1), -4), (divide(0, 0), -4), (divide(2, 0), -2),
                   (comes(1, 0), 0), (divide(1, 0), -3), (move(0, [1, 2]), 0), (divide(1, 0), -3), (divide(1, 1), -3),
                   (divide(2, 1), -2), (divide(2, 0), -2), (divide(BIG, 2), -2), (divide(0, 2), -1), (divide(0, 1), 2))


class Withdraw(LineCase):
    def test_what_is_asked_is_withdrawn_one_after_another(self):
        self.check(*MOVED, (amend(0, 0, 1, [1]), 1), (amend(0, 0, 1, [2]), 2), (go(0, BACK), 3), (go(0, CLOSE), 4),
                   (go(0, OFF), 5), *[(withdraw(0), 0)] * 6, (withdraw(0), -4), (move(1, [1]), 6))

    def test_only_by_who_moved_it(self):
        self.check(*BOTH, (member(), 2), (move(0, [1, 2]), 0), (amend(1, 0, 1, [3]), 1), (go(2, BACK), 2),
                   (withdraw(0), -6), (withdraw(1), -6), (withdraw(2), 0), (withdraw(0), -6), (withdraw(2), -6),
                   (withdraw(1), 0), (withdraw(1), -6), (withdraw(2), -6), (withdraw(0), 0), (withdraw(0), -4))

    def test_a_withdrawn_amendment_leaves_the_text(self):
        self.check(*MOVED, (amend(1, 0, 3, [1]), 1), (withdraw(1), 0), (amend(1, 3, 3, [1]), 2), (withdraw(1), 0),
                   (divide(1, 2), 2))

    def test_refusals_in_their_order(self):
        self.check((withdraw(0), -2), *BOTH, (withdraw(0), -4), (withdraw(2), -2), (comes(1, 0), 0), (withdraw(1), -3),
                   (move(0, [1]), 0), (withdraw(1), -3), (withdraw(2), -2), (withdraw(BIG), -2), (comes(1, 1), 0),
                   (withdraw(1), -6), (comes(0, 0), 0), (withdraw(0), -3))


class Begins(LineCase):
    def test_nothing_of_the_old_assembly_is_left(self):
        self.check(*MOVED, (amend(1, 0, 1, [1]), 1), (go(1, OFF), 2), (begins(), 0), (withdraw(1), -2), *BOTH,
                   (withdraw(1), -4), (divide(0, 1), -4), (move(1, [1, 2]), 0), (divide(0, 1), 2), (withdraw(0), -6))


class HundredMotions(LineCase):
    # A line of 100 calls never reaches 100 motions, since a member must be there first and what
    # is before the assembly must go again; so these lines are longer than a line may be.

    def used_up_to(self, motions):
        steps = [*BOTH]
        for number in range(motions):
            steps.extend([(move(0, [1, 2]), number), (withdraw(0), 0)])
        return steps

    def test_move(self):
        self.check(*self.used_up_to(99), (move(0, [1]), 99), (move(0, [1]), -4), (withdraw(0), 0), (move(0, [1]), -5),
                   (move(0, []), -1), (move(0, [0]), -1), (comes(1, 0), 0), (move(1, [1]), -3), (move(2, [1]), -2))

    def test_amend(self):
        self.check(*self.used_up_to(98), (move(0, [1, 2]), 98), (amend(1, 0, 1, [3]), 99), (amend(1, 0, 1, [3]), -5),
                   (amend(1, 1, 0, [3]), -1), (amend(1, 0, 1, [0]), -1), (amend(1, 0, 2, [3]), -1), (withdraw(1), 0),
                   (amend(1, 0, 1, [3]), -5), (amend(1, 0, 2, [3]), -5), (amend(1, 0, 3, [3]), -1), (divide(0, 1), 2))

    def test_go(self):
        self.check(*self.used_up_to(98), (move(0, [1]), 98), (go(1, CLOSE), 99), (go(1, BACK), -4), (go(1, OFF), -5),
                   (amend(1, 0, 1, [2]), -4), (withdraw(1), 0), (go(1, BACK), -5), (withdraw(0), 0), (go(1, BACK), -4))

    def test_a_new_assembly_counts_anew(self):
        self.check(*self.used_up_to(100), (move(0, [1]), -5), (begins(), 0), *BOTH, (move(0, [1]), 0))


if __name__ == "__main__":
    unittest.main()

"""The calls that only tell: asked, text, passed, who, votes."""

import unittest

from lines import (BACK, BIG, CLOSE, OFF, LineCase, amend, asked, begins, comes, divide, go, members, move, passed,
                   take, text, told, vote, votes, who, withdraw)

HALL = members(5, 3, 1)
MOVED = (*HALL, (move(1, [11, 12, 13]), 0))
FOR = (vote([0], [1]), [1, 5, 3])
AGAINST = (vote([1], [0]), [0, 3, 5])


class Asked(LineCase):
    def test_nothing_is_there(self):
        self.check((asked(), 0), *HALL, (asked(), 0), (begins(), 0), (asked(), 0))

    def test_each_sort(self):
        self.check(*MOVED, (asked(), [1, 0, 1]), (amend(2, 0, 1, [21]), 1), (asked(), [2, 1, 2]),
                   (amend(0, 0, 1, [31]), 2), (asked(), [3, 2, 0]), (go(1, BACK), 3), (asked(), [4, 3, 1]),
                   (go(2, CLOSE), 4), (asked(), [5, 4, 2]), (go(0, OFF), 5), (asked(), [6, 5, 0]),
                   (withdraw(0), 0), (asked(), [5, 4, 2]), (withdraw(2), 0), (asked(), [4, 3, 1]),
                   (withdraw(1), 0), (asked(), [3, 2, 0]), (withdraw(0), 0), (asked(), [2, 1, 2]),
                   (withdraw(2), 0), (asked(), [1, 0, 1]), (withdraw(1), 0), (asked(), 0))

    def test_who_moved_it_though_away(self):
        self.check(*MOVED, (comes(1, 0), 0), (asked(), [1, 0, 1]))


class Text(LineCase):
    def test_nothing_is_there(self):
        self.check((text(), -4), *HALL, (text(), -4), (move(0, [11]), 0), FOR, (text(), -4))

    def test_as_it_is_written(self):
        self.check(*HALL, (move(0, [11, 12, 11]), 0), (text(), [1, 3, 11, 12, 11, 0, 0]), (divide(1, 2), 2),
                   (text(), [2, 2, 11, 12, 0, 0]), (amend(1, 1, 2, [21, 22]), 1),
                   (text(), [2, 2, 11, 12, 1, 1, 2, 2, 21, 22, 0]), (amend(2, 0, 2, []), 2),
                   (text(), [2, 2, 11, 12, 1, 1, 2, 2, 21, 22, 1, 0, 2, 0]), (go(0, OFF), 3),
                   (text(), [2, 2, 11, 12, 1, 1, 2, 2, 21, 22, 1, 0, 2, 0]))

    def test_telling_changes_nothing(self):
        self.check(*MOVED, *[(text(), told([11, 12, 13])), (asked(), [1, 0, 1]), (votes(), 0)] * 3, FOR,
                   *[(passed(0), [3, 11, 12, 13]), (who(0, 2), [0, 1, 0]), (votes(), [1, 0, 1, 1]), (text(), -4),
                     (asked(), 0)] * 3)


class Passed(LineCase):
    def test_none(self):
        self.check((passed(0), -6), *MOVED, (passed(0), -6), (passed(BIG), -6), AGAINST, (passed(0), -6))

    def test_numbered_as_they_are_passed(self):
        self.check(*MOVED, FOR, (move(0, [14]), 1), (withdraw(0), 0), (move(2, [15]), 2), AGAINST, (move(0, [16]), 3),
                   FOR, (passed(0), [3, 11, 12, 13]), (passed(1), [1, 16]), (passed(2), -6), (passed(BIG), -6))

    def test_what_comes_later_does_not_change_it(self):
        self.check(*MOVED, FOR, (move(0, [11, 12, 13]), 1), (amend(0, 0, 3, [21]), 2), FOR,
                   (passed(0), [3, 11, 12, 13]), FOR, (passed(0), [3, 11, 12, 13]), (passed(1), [1, 21]))


class Who(LineCase):
    def test_no_such_text_and_no_such_word(self):
        self.check((who(0, 0), -6), *MOVED, (who(0, 0), -6), FOR, (who(0, 2), [0, 1, 0]), (who(0, 3), -6),
                   (who(0, BIG), -6), (who(1, 0), -6), (who(BIG, BIG), -6), (move(0, [14]), 1), AGAINST,
                   (who(1, 0), -6))

    def test_a_text_without_words(self):
        self.check(*MOVED, (amend(0, 0, 3, []), 1), FOR, FOR, (passed(0), 0), (who(0, 0), -6), (who(0, 1), -6))

    def test_three_motions_in_one_text(self):
        self.check(*members(1, 1, 1, 1), (move(0, [11, 12]), 0), (amend(1, 1, 1, [21, 22]), 1),
                   (amend(2, 1, 1, [31]), 2), (vote([3, 1], [0]), [1, 2, 1]), (vote([2, 0, 1]), [1, 3, 0]),
                   (vote([0, 3, 2], [1]), [1, 3, 1]), (passed(0), [5, 11, 21, 31, 22, 12]),
                   (who(0, 0), [0, 0, 0, 3, 2]), (who(0, 1), [1, 1, 2, 0, 1]), (who(0, 2), [2, 2, 3, 1]),
                   (who(0, 3), [1, 1, 2, 0, 1]), (who(0, 4), [0, 0, 0, 3, 2]), (who(0, 5), -6))

    def test_a_word_that_equals_one_it_replaces(self):
        self.check(*MOVED, (amend(2, 1, 2, [12]), 1), (vote([2, 0], [1]), [1, 6, 3]), FOR, (passed(0), [3, 11, 12, 13]),
                   (who(0, 0), [0, 1, 0]), (who(0, 1), [1, 2, 2, 0]), (who(0, 2), [0, 1, 0]))

    def test_members_for_it_as_they_were_told(self):
        for order in ([0, 1, 2], [2, 1, 0], [1, 0, 2], [2, 0]):
            with self.subTest(order=order):
                weight = sum((5, 3, 1)[number] for number in order)
                self.check(*MOVED, (vote(order), [1, weight, 0]), (who(0, 0), [0, 1, *order]))

    def test_nobody_voted_for_it(self):
        self.check(*HALL, (move(1, [11]), 0), (amend(2, 0, 0, [21]), 1), (vote([], [], 1), [1, 0, 0]),
                   (vote([], [], 1), [1, 0, 0]), (who(0, 0), [1, 2]), (who(0, 1), [0, 1]))

    def test_those_against_are_not_told(self):
        self.check(*MOVED, (vote([2, 0], [1]), [1, 6, 3]), (who(0, 0), [0, 1, 2, 0]))

    def test_parts_passed_by_different_members(self):
        self.check(*members(1, 1, 1), (move(0, [11, 12, 13]), 0), (amend(1, 1, 1, [21, 22]), 1),
                   (vote([1, 2], [0]), [1, 2, 1]), (divide(0, 4), 2), (divide(0, 2), 3), (vote([0, 1]), [1, 2, 0]),
                   (vote([2, 0], [1]), [1, 2, 1]), (vote([1]), [1, 1, 0]), (passed(0), [2, 11, 21]),
                   (passed(1), [2, 22, 12]), (passed(2), [1, 13]), (who(0, 0), [0, 0, 0, 1]), (who(0, 1), [1, 1, 1, 2]),
                   (who(1, 0), [1, 1, 1, 2]), (who(1, 1), [0, 0, 2, 0]), (who(2, 0), [0, 0, 1]), (who(2, 1), -6))

    def test_a_later_vote_on_the_next_part_does_not_change_who(self):
        self.check(*members(1, 1, 1), (move(0, [11, 12]), 0), (divide(0, 1), 2), (vote([2]), [1, 1, 0]),
                   (who(0, 0), [0, 0, 2]), (vote([1, 0]), [1, 2, 0]), (who(0, 0), [0, 0, 2]), (who(1, 0), [0, 0, 1, 0]))

    def test_an_amendment_of_words_an_amendment_brought(self):
        self.check(*members(1, 1, 1), (move(0, [11, 12]), 0), (amend(1, 0, 1, [21, 22, 23]), 1), (vote([1]), [1, 1, 0]),
                   (amend(2, 1, 2, [31]), 2), (vote([2]), [1, 1, 0]), (vote([0]), [1, 1, 0]),
                   (passed(0), [4, 21, 31, 23, 12]), (who(0, 0), [1, 1, 1]), (who(0, 1), [2, 2, 2]),
                   (who(0, 2), [1, 1, 1]), (who(0, 3), [0, 0, 0]))

    def test_after_it_was_put_off(self):
        self.check(*members(1, 1, 1), (move(0, [11]), 0), (amend(1, 0, 0, [21]), 1), (vote([2, 1]), [1, 2, 0]),
                   (go(2, OFF), 2), (vote([0]), [1, 1, 0]), (move(2, [12]), 3), (vote([1]), [1, 1, 0]), (take(0, 0), 1),
                   (vote([0, 2]), [1, 2, 0]), (who(0, 0), [3, 2, 1]), (who(1, 0), [1, 1, 2, 1]),
                   (who(1, 1), [0, 0, 0, 2]))

    def test_who_moved_it_and_voted_for_it_though_away_now(self):
        self.check(*MOVED, FOR, (comes(0, 0), 0), (comes(1, 0), 0), (who(0, 0), [0, 1, 0]))


class Votes(LineCase):
    def test_none(self):
        self.check((votes(), 0), *MOVED, (votes(), 0), (withdraw(1), 0), (votes(), 0))

    def test_each_sort_carried_and_not(self):
        self.check(*MOVED, (amend(0, 0, 1, [21]), 1), (amend(0, 0, 1, [31]), 2), (go(0, BACK), 3), (go(0, CLOSE), 4),
                   (go(0, OFF), 5), AGAINST, AGAINST, AGAINST, AGAINST, AGAINST, AGAINST,
                   (votes(), [6, 5, 6, 0, 4, 5, 0, 3, 4, 0, 2, 3, 0, 1, 2, 0, 0, 1, 0]))
        whole = (vote([0, 1, 2]), [1, 9, 0])
        self.check(*MOVED, (amend(0, 0, 1, [21]), 1), (amend(0, 0, 1, [31]), 2), (go(0, CLOSE), 3), whole, whole, whole,
                   (go(0, OFF), 4), whole, (take(0, 0), 1), whole, (move(2, [5]), 5), (go(2, BACK), 6), whole,
                   (votes(), [6, 3, 5, 1, 2, 3, 1, 1, 2, 1, 4, 6, 1, 0, 1, 1, 6, 4, 1]))

    def test_a_refused_vote_was_not_taken(self):
        self.check(*HALL, (vote([0]), -4), (move(0, [11]), 0), (vote([3]), -2), (vote([0], [0]), -1), (votes(), 0),
                   FOR, (votes(), [1, 0, 1, 1]))


class Begins(LineCase):
    def test_nothing_of_what_was_before_is_told(self):
        self.check(*MOVED, (amend(0, 0, 1, [21]), 1), FOR, (divide(0, 1), 2), FOR, (amend(2, 0, 1, [31]), 2),
                   (go(0, OFF), 3), FOR, (move(0, [14]), 4), (go(0, BACK), 5), (begins(), 0),
                   (asked(), 0), (text(), -4), (passed(0), -6), (who(0, 0), -6), (votes(), 0), (take(0, 0), -2),
                   (vote([]), -4), *HALL, (take(0, 0), -2), (vote([0]), -4), (move(2, [15, 16]), 0),
                   (asked(), [1, 0, 2]), (text(), told([15, 16])), (vote([2]), [1, 1, 0]), (passed(0), [2, 15, 16]),
                   (passed(1), -6), (who(0, 0), [0, 2, 2]), (who(0, 1), [0, 2, 2]), (votes(), [1, 0, 1, 1]))

    def test_an_amendment_with_the_number_of_an_older_one(self):
        self.check(*MOVED, (amend(0, 0, 1, [21]), 1), FOR, FOR, (begins(), 0), *HALL, (move(0, [11]), 0),
                   (amend(1, 0, 0, [22]), 1), (vote([2]), [1, 1, 0]), (vote([1]), [1, 3, 0]), (who(0, 0), [1, 1, 2]),
                   (who(0, 1), [0, 0, 1]))


if __name__ == "__main__":
    unittest.main()

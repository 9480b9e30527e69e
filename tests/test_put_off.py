"""The call take, and what was put off."""

import unittest

from lines import (BACK, BIG, CLOSE, OFF, LineCase, amend, asked, begins, comes, divide, go, members, move, passed,
                   take, text, told, vote, votes, who, withdraw)

HALL = members(5, 3, 1)
FOR = (vote([0], [1]), [1, 5, 3])
AGAINST = (vote([1], [0]), [0, 3, 5])
CLOSED = (vote([0, 2], [1]), [1, 6, 3])


def put_off(words, motion):
    """A main motion with these words, moved by member 0 and put off."""
    return [(move(0, words), motion), (go(1, OFF), motion + 1), FOR]


THREE = (*HALL, *put_off([11], 0), *put_off([12], 2), *put_off([13], 4))


class Numbers(LineCase):
    def test_the_first_of_three(self):
        self.check(*THREE, (take(2, 0), 1), (asked(), [1, 0, 0]), (text(), told([11])), FOR,
                   (take(2, 2), -2), (take(2, 1), 1), (text(), told([13])), FOR, (take(2, 0), 1), (text(), told([12])),
                   FOR, (take(2, 0), -2), (passed(0), [1, 11]), (passed(1), [1, 13]), (passed(2), [1, 12]))

    def test_the_second_of_three(self):
        self.check(*THREE, (take(2, 1), 1), (asked(), [1, 2, 0]), (text(), told([12])), FOR,
                   (take(2, 2), -2), (take(2, 1), 1), (asked(), [1, 4, 0]), (text(), told([13])), AGAINST,
                   (take(2, 1), -2), (take(2, 0), 1), (text(), told([11])))

    def test_the_third_of_three(self):
        self.check(*THREE, (take(2, 3), -2), (take(2, 2), 1), (asked(), [1, 4, 0]), (text(), told([13])),
                   (withdraw(0), 0), (take(2, 2), -2), (take(2, 0), 1), (text(), told([11])), FOR, (take(2, 0), 1),
                   (text(), told([12])))

    def test_put_off_again_it_is_the_last(self):
        self.check(*THREE, (take(2, 0), 1), (go(2, OFF), 6), FOR, (take(2, 2), 1), (text(), told([11])), FOR,
                   (take(2, 0), 1), (text(), told([12])), FOR, (take(2, 0), 1), (text(), told([13])))

    def test_put_off_again_and_again(self):
        self.check(*HALL, *put_off([11, 12], 0), (take(2, 0), 1), (go(0, OFF), 2), FOR, (take(2, 0), 1),
                   (amend(1, 0, 1, [21]), 3), FOR, (go(0, OFF), 4), FOR, (take(2, 0), 1), (text(), told([21, 12])),
                   (take(2, 0), -2), FOR, (passed(0), [2, 21, 12]), (take(2, 0), -2))

    def test_another_is_moved_and_passed_between(self):
        self.check(*HALL, *put_off([11], 0), (move(1, [12]), 2), FOR, (take(2, 0), 1), (text(), told([11])), FOR,
                   (passed(0), [1, 12]), (passed(1), [1, 11]), (votes(), [3, 1, 6, 1, 2, 1, 1, 0, 1, 1]))


class JustAsItWas(LineCase):
    def test_with_an_amendment(self):
        self.check(*HALL, (move(0, [11, 12]), 0), (amend(1, 0, 1, [21]), 1), (go(2, OFF), 2), FOR, (take(1, 0), 2),
                   (asked(), [2, 1, 1]), (text(), told([11, 12], 1, (0, 1, [21]))), (amend(2, 1, 1, [31]), 3), FOR, FOR,
                   (text(), told([21, 31, 12])))

    def test_with_an_amendment_to_the_amendment(self):
        self.check(*HALL, (move(0, [11, 12]), 0), (amend(1, 0, 1, [21]), 1), (amend(2, 0, 0, [31]), 2), (go(0, OFF), 3),
                   FOR, (move(1, [7]), 4), AGAINST, (take(1, 0), 3), (asked(), [3, 2, 2]),
                   (text(), told([11, 12], 1, (0, 1, [21]), (0, 0, [31]))), FOR, (asked(), [2, 1, 1]), FOR,
                   (asked(), [1, 0, 0]), (text(), told([31, 21, 12])))

    def test_an_amendment_to_the_amendment_was_carried_before(self):
        self.check(*HALL, (move(0, [11, 12]), 0), (amend(1, 0, 1, [21]), 1), (amend(2, 0, 0, [31]), 2), FOR,
                   (go(0, OFF), 3), FOR, (take(1, 0), 2), FOR, (vote([2, 0], [1]), [1, 6, 3]),
                   (passed(0), [3, 31, 21, 12]), (who(0, 0), [2, 2, 0]), (who(0, 1), [1, 1, 0]),
                   (who(0, 2), [0, 0, 2, 0]))

    def test_with_parts_to_come(self):
        self.check(*HALL, (move(0, [11, 12, 13]), 0), (divide(0, 2), 2), (divide(0, 1), 3), (go(1, OFF), 1), FOR,
                   (move(1, [7]), 2), FOR, (asked(), 0), (take(2, 0), 1), (text(), told([11], 3)), FOR,
                   (text(), told([12], 2)), (go(1, OFF), 3), FOR, (asked(), 0), (take(2, 0), 1),
                   (text(), told([12], 2)), AGAINST, (text(), told([13])), (withdraw(0), 0), (asked(), 0),
                   (take(2, 0), -2), (passed(1), [1, 11]), (passed(2), -6))

    def test_closed(self):
        self.check(*HALL, (move(0, [11, 12]), 0), (amend(1, 0, 1, [21]), 1), (go(0, CLOSE), 2), CLOSED, (go(1, OFF), 3),
                   FOR, (move(1, [7]), 4), (amend(1, 0, 0, [8]), 5), (withdraw(1), 0), FOR, (take(1, 0), 2),
                   (amend(1, 0, 0, [31]), -4), (go(1, BACK), -4), (go(1, CLOSE), -4), FOR, (divide(1, 1), 2),
                   (text(), told([21], 2)), FOR, (amend(1, 0, 1, [31]), -4), (go(1, OFF), 6), FOR, (take(1, 0), 1),
                   (text(), told([12])), (amend(1, 0, 1, [31]), -4))

    def test_not_closed_beside_a_closed_one(self):
        self.check(*HALL, *put_off([11], 0), (move(0, [12]), 2), (go(0, CLOSE), 3), CLOSED, (go(0, OFF), 4), FOR,
                   (take(0, 0), 1), (amend(1, 0, 0, [21]), 5), AGAINST, FOR, (take(0, 0), 1),
                   (amend(1, 0, 0, [21]), -4))

    def test_without_motions_how_to_go_on(self):
        for ways in ((BACK,), (CLOSE,), (BACK, CLOSE)):
            with self.subTest(ways=ways):
                moved = [(go(2, how), 1 + place) for place, how in enumerate(ways)]
                first = 1 + len(ways)
                self.check(*HALL, (move(0, [11]), 0), *moved, (go(1, OFF), first), FOR, (take(1, 0), 1),
                           (asked(), [1, 0, 0]), (withdraw(2), -6), (go(1, BACK), first + 1), (go(1, CLOSE), first + 2),
                           (go(1, OFF), first + 3), (asked(), [6, first + 3, 1]))

    def test_any_member_who_is_there_takes_it(self):
        self.check(*HALL, *put_off([11], 0), (comes(0, 0), 0), (take(2, 0), 1), (asked(), [1, 0, 0]), (withdraw(2), -6),
                   (comes(0, 1), 0), (withdraw(0), 0))

    def test_sent_back_after_it_was_taken(self):
        self.check(*HALL, *put_off([11], 0), (take(2, 0), 1), (go(2, BACK), 2), FOR, (asked(), 0), (take(2, 0), -2))


class Refusals(LineCase):
    def test_no_such_member(self):
        self.check((take(0, 0), -2), *HALL, (take(3, 0), -2), *put_off([11], 0), (take(3, 0), -2), (take(BIG, 0), -2),
                   (take(0, 0), 1), (take(3, 0), -2))

    def test_away_counts_before_none_such_and_what_is_there(self):
        self.check(*HALL, (comes(2, 0), 0), (take(2, 0), -3), *put_off([11], 0), (take(2, 0), -3), (take(2, 1), -3),
                   (move(0, [12]), 2), (take(2, 0), -3), (take(2, 1), -3), (comes(2, 1), 0), (take(2, 0), -4))

    def test_none_such_put_off(self):
        self.check(*HALL, (take(0, 0), -2), (take(0, BIG), -2), *put_off([11], 0), (take(0, 1), -2), (take(0, BIG), -2),
                   (take(0, 0), 1), FOR, (take(0, 0), -2))

    def test_none_such_counts_before_what_is_there(self):
        self.check(*HALL, (move(0, [11]), 0), (take(0, 0), -2), (go(1, OFF), 1), (take(0, 0), -2), FOR,
                   (move(0, [12]), 2), (take(0, 1), -2), (take(0, BIG), -2), (take(0, 0), -4), (take(3, 0), -2))

    def test_something_is_there(self):
        self.check(*HALL, *put_off([11], 0), *put_off([12], 2), (take(0, 0), 1), (take(0, 0), -4), (take(0, 1), -2),
                   (amend(0, 0, 1, [21]), 4), (take(0, 0), -4), (go(0, OFF), 5), (take(0, 0), -4), FOR, (take(0, 1), 2),
                   (text(), told([11], 1, (0, 1, [21]))), (move(0, [5]), -4))

    def test_taking_is_no_motion_and_no_vote(self):
        self.check(*HALL, *put_off([11], 0), (take(0, 0), 1), (amend(0, 0, 1, [21]), 2), (votes(), [1, 1, 6, 1]))

    def test_a_new_assembly_has_put_nothing_off(self):
        self.check(*THREE, (begins(), 0), *HALL, (take(0, 0), -2), *put_off([14], 0), (take(0, 1), -2), (take(0, 0), 1),
                   (text(), told([14])))


if __name__ == "__main__":
    unittest.main()

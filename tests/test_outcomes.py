"""What a vote does, for each sort of question, carried or not."""

import unittest

from lines import (BACK, CLOSE, OFF, LineCase, amend, asked, divide, go, members, move, passed, take, text, told, vote,
                   votes, who, withdraw)

HALL = (*members(5, 3, 1), (move(0, [11, 12, 13]), 0))
TEXT = [11, 12, 13]
FOR = (vote([0], [1]), [1, 5, 3])
AGAINST = (vote([1], [0]), [0, 3, 5])
# To close needs two thirds.
CLOSED = (vote([0, 2], [1]), [1, 6, 3])
NOT_CLOSED = (vote([0], [1, 2]), [0, 5, 4])


class MainMotions(LineCase):
    def test_carried(self):
        self.check(*HALL, (asked(), [1, 0, 0]), FOR, (asked(), 0), (text(), -4), (passed(0), [3, 11, 12, 13]),
                   (votes(), [1, 0, 1, 1]), (move(1, [14]), 1), (text(), told([14])))

    def test_not_carried(self):
        self.check(*HALL, AGAINST, (asked(), 0), (text(), -4), (passed(0), -6), (votes(), [1, 0, 1, 0]),
                   (move(1, [14]), 1), (text(), told([14])))

    def test_withdrawn(self):
        self.check(*HALL, (withdraw(0), 0), (asked(), 0), (text(), -4), (passed(0), -6), (votes(), 0))

    def test_the_same_words_again(self):
        self.check(*HALL, AGAINST, (move(1, TEXT), 1), FOR, (passed(0), [3, *TEXT]), (who(0, 0), [1, 1, 0]))


class Amendments(LineCase):
    def test_words_at_each_place(self):
        for i, j, words, become in (
                (0, 0, [21], [21, 11, 12, 13]), (0, 0, [21, 22], [21, 22, 11, 12, 13]),
                (1, 1, [21], [11, 21, 12, 13]), (3, 3, [21, 22], [11, 12, 13, 21, 22]),
                (0, 1, [21], [21, 12, 13]), (1, 2, [21, 22], [11, 21, 22, 13]), (2, 3, [21], [11, 12, 21]),
                (1, 3, [21], [11, 21]), (0, 3, [21], [21]), (0, 3, [21, 22, 23, 24], [21, 22, 23, 24]),
                (0, 1, [], [12, 13]), (1, 2, [], [11, 13]), (2, 3, [], [11, 12]), (0, 2, [], [13]), (0, 3, [], [])):
            with self.subTest(i=i, j=j, words=words):
                pending = (*HALL, (amend(1, i, j, words), 1), (text(), told(TEXT, 1, (i, j, words))),
                           (asked(), [2, 1, 1]))
                self.check(*pending, FOR, (asked(), [1, 0, 0]), (text(), told(become)), (votes(), [1, 1, 2, 1]),
                           FOR, (passed(0), [len(become), *become]))
                self.check(*pending, AGAINST, (asked(), [1, 0, 0]), (text(), told(TEXT)), (votes(), [1, 1, 2, 0]),
                           FOR, (passed(0), [3, *TEXT]))

    def test_one_after_another(self):
        self.check(*HALL, (amend(1, 1, 2, [21, 22, 23]), 1), FOR, (text(), told([11, 21, 22, 23, 13])),
                   (amend(2, 2, 5, [31]), 2), FOR, (text(), told([11, 21, 31])),
                   (amend(0, 0, 1, [41]), 3), AGAINST, (text(), told([11, 21, 31])),
                   (amend(0, 3, 3, [51]), 4), FOR, (text(), told([11, 21, 31, 51])), FOR,
                   (passed(0), [4, 11, 21, 31, 51]))

    def test_withdrawn(self):
        self.check(*HALL, (amend(1, 0, 1, [21]), 1), (withdraw(1), 0), (text(), told(TEXT)), (asked(), [1, 0, 0]))

    def test_a_text_without_words(self):
        self.check(*HALL, (amend(1, 0, 3, []), 1), FOR, (text(), told([])), (divide(0, 0), -1), (divide(0, 1), -1),
                   (amend(1, 0, 1, [21]), -1), (amend(1, 0, 0, []), -1), (amend(1, 0, 0, [21]), 2), FOR,
                   (text(), told([21])), (amend(1, 0, 1, []), 3), FOR, FOR, (passed(0), 0), (who(0, 0), -6),
                   (asked(), 0))

    def test_a_text_without_words_that_is_not_carried(self):
        self.check(*HALL, (amend(1, 0, 3, []), 1), FOR, AGAINST, (passed(0), -6), (asked(), 0))

    def test_dividing_what_was_amended(self):
        self.check(*HALL, (amend(1, 1, 1, [21, 22]), 1), FOR, (divide(2, 2), 2), (text(), told([11, 21], 2)), FOR,
                   (text(), told([22, 12, 13])))


class FurtherAmendments(LineCase):
    PENDING = (*HALL, (amend(1, 1, 2, [21, 22]), 1))

    def test_words_at_each_place(self):
        for i, j, words, become in (
                (0, 0, [31], [31, 21, 22]), (1, 1, [31, 32], [21, 31, 32, 22]), (2, 2, [31], [21, 22, 31]),
                (0, 1, [31], [31, 22]), (1, 2, [31], [21, 31]), (0, 2, [31], [31]), (0, 1, [], [22]),
                (1, 2, [], [21]), (0, 2, [], [])):
            with self.subTest(i=i, j=j, words=words):
                pending = (*self.PENDING, (amend(2, i, j, words), 2), (asked(), [3, 2, 2]),
                           (text(), told(TEXT, 1, (1, 2, [21, 22]), (i, j, words))))
                self.check(*pending, FOR, (asked(), [2, 1, 1]), (text(), told(TEXT, 1, (1, 2, become))),
                           (votes(), [1, 2, 3, 1]), FOR, (asked(), [1, 0, 0]), (text(), told([11, *become, 13])), FOR,
                           (passed(0), [2 + len(become), 11, *become, 13]), (votes(), [3, 2, 3, 1, 1, 2, 1, 0, 1, 1]))
                self.check(*pending, AGAINST, (asked(), [2, 1, 1]), (text(), told(TEXT, 1, (1, 2, [21, 22]))),
                           (votes(), [1, 2, 3, 0]), FOR, (text(), told([11, 21, 22, 13])))

    def test_carried_and_then_the_amendment_is_not(self):
        self.check(*self.PENDING, (amend(2, 0, 1, [31]), 2), FOR, AGAINST, (text(), told(TEXT)), FOR,
                   (passed(0), [3, *TEXT]), (votes(), [3, 2, 3, 1, 1, 2, 0, 0, 1, 1]))

    def test_one_after_another(self):
        self.check(*self.PENDING, (amend(2, 0, 1, [31, 32]), 2), FOR, (amend(0, 3, 3, [41]), 3), AGAINST,
                   (amend(0, 2, 3, [51]), 4), (text(), told(TEXT, 1, (1, 2, [31, 32, 22]), (2, 3, [51]))), FOR,
                   (text(), told(TEXT, 1, (1, 2, [31, 32, 51]))), FOR, (text(), told([11, 31, 32, 51, 13])),
                   (amend(0, 0, 5, [61]), 5), FOR, (text(), told([61])))

    def test_withdrawn(self):
        self.check(*self.PENDING, (amend(2, 0, 1, [31]), 2), (withdraw(2), 0), (asked(), [2, 1, 1]), FOR,
                   (text(), told([11, 21, 22, 13])))

    def test_an_amendment_without_words_that_takes_none_out(self):
        self.check(*HALL, (amend(1, 3, 3, [21]), 1), (amend(2, 0, 1, []), 2), FOR,
                   (text(), told(TEXT, 1, (3, 3, []))), (amend(2, 0, 1, [31]), -1), FOR, (text(), told(TEXT)),
                   (votes(), [2, 2, 3, 1, 1, 2, 1]))

    def test_an_amendment_without_words_is_given_some(self):
        self.check(*HALL, (amend(1, 0, 3, []), 1), (amend(2, 0, 0, [31, 32]), 2),
                   (text(), told(TEXT, 1, (0, 3, []), (0, 0, [31, 32]))), FOR,
                   (text(), told(TEXT, 1, (0, 3, [31, 32]))), FOR, (text(), told([31, 32])))


class SentBack(LineCase):
    def test_carried(self):
        self.check(*HALL, (go(1, BACK), 1), (asked(), [4, 1, 1]), FOR, (asked(), 0), (text(), -4), (passed(0), -6),
                   (take(0, 0), -2), (votes(), [1, 1, 4, 1]), (move(2, [14]), 2), (text(), told([14])))

    def test_not_carried(self):
        self.check(*HALL, (go(1, BACK), 1), AGAINST, (asked(), [1, 0, 0]), (text(), told(TEXT)),
                   (votes(), [1, 1, 4, 0]), (go(2, BACK), 2), (asked(), [4, 2, 2]))

    def test_with_amendments_and_parts_to_come(self):
        pending = (*HALL, (divide(0, 1), 2), (amend(1, 0, 1, [21]), 1), (amend(2, 0, 1, [31]), 2), (go(0, BACK), 3),
                   (text(), told([11], 2, (0, 1, [21]), (0, 1, [31]))))
        self.check(*pending, FOR, (asked(), 0), (text(), -4), (move(2, [14]), 4), (text(), told([14])), FOR,
                   (asked(), 0), (passed(0), [1, 14]), (passed(1), -6))
        self.check(*pending, AGAINST, (asked(), [3, 2, 2]), (text(), told([11], 2, (0, 1, [21]), (0, 1, [31]))))


class Closed(LineCase):
    SHUT = (*HALL, (go(1, CLOSE), 1), CLOSED)

    def test_carried(self):
        self.check(*HALL, (go(1, CLOSE), 1), (asked(), [5, 1, 1]), CLOSED, (asked(), [1, 0, 0]), (text(), told(TEXT)),
                   (votes(), [1, 1, 5, 1]), FOR, (passed(0), [3, *TEXT]), (asked(), 0))

    def test_not_carried(self):
        self.check(*HALL, (go(1, CLOSE), 1), NOT_CLOSED, (asked(), [1, 0, 0]), (votes(), [1, 1, 5, 0]),
                   (amend(1, 0, 1, [21]), 2), (go(1, BACK), 3), (go(1, CLOSE), 4))

    def test_amend_on_a_closed_text(self):
        self.check(*self.SHUT, (amend(1, 0, 1, [21]), -4), (amend(1, 1, 0, [21]), -4), (amend(1, 0, 9, [21]), -4),
                   (amend(1, 0, 0, []), -4), (amend(1, 0, 1, [0]), -1), (amend(1, 0, 1, [100000]), -1),
                   (amend(1, 0, 1, [5] * 31), -1), (amend(3, 0, 1, [0]), -2))

    def test_go_on_a_closed_text(self):
        self.check(*self.SHUT, (go(1, BACK), -4), (go(1, CLOSE), -4), (go(1, OFF), 2), (go(1, OFF), -4),
                   (go(1, BACK), -4), AGAINST, (asked(), [1, 0, 0]), (go(1, CLOSE), -4), (go(2, OFF), 3))

    def test_divide_on_a_closed_text(self):
        self.check(*self.SHUT, (divide(2, 3), -1), (divide(2, 1), 2), (text(), told([11], 2)), FOR,
                   (text(), told([12, 13])), (amend(1, 0, 1, [21]), -4), (go(1, BACK), -4), (go(1, CLOSE), -4),
                   (divide(2, 1), 2), AGAINST, (amend(1, 0, 1, [21]), -4), (withdraw(0), 0), (asked(), 0))

    def test_withdraw_on_a_closed_text(self):
        self.check(*self.SHUT, (withdraw(1), -6), (withdraw(0), 0), (asked(), 0))

    def test_the_amendments_that_are_there_are_still_voted_on(self):
        self.check(*HALL, (amend(1, 0, 1, [21, 22]), 1), (amend(2, 0, 1, [31]), 2), (go(0, CLOSE), 3), CLOSED,
                   (asked(), [3, 2, 2]), FOR, (asked(), [2, 1, 1]), (amend(2, 0, 1, [41]), -4), (divide(2, 1), -4),
                   FOR, (asked(), [1, 0, 0]), (text(), told([31, 22, 12, 13])), (amend(2, 0, 1, [41]), -4), FOR,
                   (passed(0), [4, 31, 22, 12, 13]))

    def test_the_next_main_motion_is_not_closed(self):
        for end in (FOR, AGAINST, (withdraw(0), 0)):
            with self.subTest(end=end):
                self.check(*self.SHUT, end, (move(0, [14]), 2), (amend(1, 0, 1, [21]), 3), (go(1, CLOSE), 4))


class PutOff(LineCase):
    def test_carried(self):
        self.check(*HALL, (go(1, OFF), 1), (asked(), [6, 1, 1]), FOR, (asked(), 0), (text(), -4), (passed(0), -6),
                   (votes(), [1, 1, 6, 1]), (take(2, 0), 1), (asked(), [1, 0, 0]), (text(), told(TEXT)))

    def test_not_carried(self):
        self.check(*HALL, (go(1, OFF), 1), AGAINST, (asked(), [1, 0, 0]), (text(), told(TEXT)), (take(2, 0), -2),
                   (votes(), [1, 1, 6, 0]), (go(2, OFF), 2), FOR, (take(2, 0), 1))

    def test_with_parts_to_come_nothing_is_there(self):
        self.check(*HALL, (divide(0, 1), 2), (go(1, OFF), 1), FOR, (asked(), 0), (text(), -4), (move(0, [14]), 2))


class Ranks(LineCase):
    """Motions how to go on above one another."""

    THREE = (*HALL, (go(0, BACK), 1), (go(1, CLOSE), 2), (go(2, OFF), 3))

    def test_none_carried(self):
        self.check(*self.THREE, (asked(), [6, 3, 2]), AGAINST, (asked(), [5, 2, 1]), NOT_CLOSED, (asked(), [4, 1, 0]),
                   AGAINST, (asked(), [1, 0, 0]), (text(), told(TEXT)), (votes(), [3, 3, 6, 0, 2, 5, 0, 1, 4, 0]))

    def test_put_off_over_the_others(self):
        self.check(*self.THREE, FOR, (asked(), 0), (text(), -4), (take(1, 0), 1), (asked(), [1, 0, 0]),
                   (amend(1, 0, 1, [21]), 4), (go(0, BACK), 5), (go(0, CLOSE), 6), (go(0, OFF), 7))

    def test_closed_over_send_back(self):
        self.check(*HALL, (go(0, BACK), 1), (go(1, CLOSE), 2), CLOSED, (asked(), [4, 1, 0]), (amend(1, 0, 1, [21]), -4),
                   (go(1, CLOSE), -4), (divide(1, 1), -4), AGAINST, (asked(), [1, 0, 0]), (amend(1, 0, 1, [21]), -4),
                   (go(1, BACK), -4), (go(1, OFF), 3))

    def test_closed_and_then_sent_back(self):
        self.check(*HALL, (go(0, BACK), 1), (go(1, CLOSE), 2), CLOSED, (go(2, OFF), 3), AGAINST, (asked(), [4, 1, 0]),
                   FOR, (asked(), 0), (votes(), [3, 2, 5, 1, 3, 6, 0, 1, 4, 1]))

    def test_sent_back_under_what_was_dropped(self):
        self.check(*self.THREE, AGAINST, (withdraw(1), 0), (asked(), [4, 1, 0]), FOR, (asked(), 0), (take(0, 0), -2))

    def test_closed_and_put_off_over_send_back(self):
        self.check(*HALL, (go(0, BACK), 1), (go(1, CLOSE), 2), CLOSED, (go(2, OFF), 3), FOR, (take(0, 0), 1),
                   (asked(), [1, 0, 0]), (amend(1, 0, 1, [21]), -4), (go(0, BACK), -4), (go(0, OFF), 4))

    def test_over_amendments(self):
        self.check(*HALL, (amend(1, 0, 1, [21]), 1), (go(0, BACK), 2), (go(1, CLOSE), 3), CLOSED, (asked(), [4, 2, 0]),
                   AGAINST, (asked(), [2, 1, 1]), (text(), told(TEXT, 1, (0, 1, [21]))))


if __name__ == "__main__":
    unittest.main()

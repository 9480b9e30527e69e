"""A divided text, whose parts are voted on one by one."""

import unittest

from lines import (BACK, CLOSE, LineCase, amend, asked, divide, go, members, move, passed, text, told, vote, votes, who,
                   withdraw)

HALL = (*members(5, 3, 1), (move(0, [11, 12, 13, 14, 15]), 0))
FOR = (vote([0], [1]), [1, 5, 3])
AGAINST = (vote([1], [0]), [0, 3, 5])
CLOSED = (vote([0, 2], [1]), [1, 6, 3])
# Parts of 2, 1 and 2 words.
PARTS = (*HALL, (divide(1, 3), 2), (text(), told([11, 12, 13], 2)), (divide(2, 2), 3), (text(), told([11, 12], 3)))


class Parts(LineCase):
    def test_each_is_passed(self):
        self.check(*PARTS, FOR, (asked(), [1, 0, 0]), (text(), told([13], 2)), FOR, (text(), told([14, 15])), FOR,
                   (asked(), 0), (text(), -4), (passed(0), [2, 11, 12]), (passed(1), [1, 13]), (passed(2), [2, 14, 15]),
                   (passed(3), -6), (votes(), [3, 0, 1, 1, 0, 1, 1, 0, 1, 1]))

    def test_none_is_carried(self):
        self.check(*PARTS, AGAINST, (asked(), [1, 0, 0]), (text(), told([13], 2)), AGAINST, (text(), told([14, 15])),
                   AGAINST, (asked(), 0), (passed(0), -6), (votes(), [3, 0, 1, 0, 0, 1, 0, 0, 1, 0]))

    def test_each_is_withdrawn(self):
        self.check(*PARTS, (withdraw(1), -6), (withdraw(0), 0), (asked(), [1, 0, 0]), (text(), told([13], 2)),
                   (withdraw(0), 0), (text(), told([14, 15])), (withdraw(0), 0), (asked(), 0), (withdraw(0), -4),
                   (passed(0), -6), (votes(), 0))

    def test_one_passed_one_not_one_withdrawn(self):
        for ends, words in (((FOR, AGAINST, (withdraw(0), 0)), [11, 12]), ((AGAINST, (withdraw(0), 0), FOR), [14, 15]),
                            (((withdraw(0), 0), FOR, AGAINST), [13])):
            with self.subTest(words=words):
                self.check(*PARTS, *ends, (asked(), 0), (passed(0), [len(words), *words]), (passed(1), -6))

    def test_each_is_amended_by_itself(self):
        self.check(*PARTS, (amend(1, 2, 2, [21]), 1), (text(), told([11, 12], 3, (2, 2, [21]))), FOR,
                   (text(), told([11, 12, 21], 3)), FOR, (text(), told([13], 2)), (amend(1, 0, 2, []), -1),
                   (amend(1, 0, 1, []), 2), FOR, (text(), told([], 2)), (divide(0, 1), -1), FOR,
                   (text(), told([14, 15])), (amend(2, 0, 1, [31, 32]), 3), (amend(2, 1, 2, [41]), 4), FOR, FOR,
                   (text(), told([31, 41, 15])), FOR, (passed(0), [3, 11, 12, 21]), (passed(1), 0),
                   (passed(2), [3, 31, 41, 15]))

    def test_a_part_is_divided_again(self):
        self.check(*PARTS, (divide(0, 1), 4), (text(), told([11], 4)), FOR, (text(), told([12], 3)), FOR,
                   (text(), told([13], 2)), (divide(0, 1), -1), AGAINST, (text(), told([14, 15])), (divide(0, 1), 2),
                   (text(), told([14], 2)), FOR, (text(), told([15])), FOR, (asked(), 0), (passed(2), [1, 14]),
                   (passed(3), [1, 15]), (passed(4), -6))

    def test_a_text_is_divided_where_an_amendment_was_put(self):
        self.check(*HALL, (amend(1, 1, 4, [21, 22]), 1), FOR, (divide(1, 2), 2), (text(), told([11, 21], 2)), FOR,
                   (text(), told([22, 15])), (vote([2]), [1, 1, 0]), (who(0, 0), [0, 0, 0]), (who(0, 1), [1, 1, 0]),
                   (who(1, 0), [1, 1, 0]), (who(1, 1), [0, 0, 2]))

    def test_sent_back_with_all_its_parts(self):
        self.check(*PARTS, FOR, (go(1, BACK), 1), FOR, (asked(), 0), (text(), -4), (passed(0), [2, 11, 12]),
                   (passed(1), -6))

    def test_send_back_is_not_carried(self):
        self.check(*PARTS, FOR, (go(1, BACK), 1), AGAINST, (text(), told([13], 2)), (go(1, BACK), 2), AGAINST, FOR,
                   (text(), told([14, 15])))


class ClosedOverParts(LineCase):
    def test_each_part_behind_it_is_closed(self):
        for first in (FOR, AGAINST, (withdraw(0), 0)):
            with self.subTest(first=first):
                self.check(*PARTS, (go(1, CLOSE), 1), CLOSED, (text(), told([11, 12], 3)), (amend(1, 0, 1, [21]), -4),
                           first, (text(), told([13], 2)), (amend(1, 0, 1, [21]), -4), (go(1, CLOSE), -4), first,
                           (text(), told([14, 15])), (go(1, BACK), -4), (amend(1, 0, 1, [21]), -4), (divide(1, 1), 2),
                           first, (amend(1, 0, 1, [21]), -4), first, (asked(), 0), (move(1, [16]), 2),
                           (amend(1, 0, 1, [21]), 3))

    def test_closed_at_a_later_part(self):
        self.check(*PARTS, (amend(1, 0, 1, [21]), 1), AGAINST, FOR, (go(1, CLOSE), 2), CLOSED, (text(), told([13], 2)),
                   (amend(1, 0, 1, [21]), -4), FOR, (amend(1, 0, 1, [21]), -4), FOR, (asked(), 0))


if __name__ == "__main__":
    unittest.main()

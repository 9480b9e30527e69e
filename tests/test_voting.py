import unittest

from lines import (BACK, BIG, CLOSE, OFF, LineCase, amend, asked, begins, comes, go, member, members, move, text, told,
                   vote, votes, withdraw)

WEIGHTS = (2, 1, 1, 4)

# By what is asked: the place of its rule, and the steps that bring it before the assembly.
MOVED = ((move(0, [11, 12]), 0),)
AMENDED = (*MOVED, (amend(0, 0, 1, [21, 22]), 1))
QUESTIONS = {
    1: (0, MOVED),
    2: (1, AMENDED),
    3: (1, (*AMENDED, (amend(0, 0, 1, [31]), 2))),
    4: (2, (*MOVED, (go(0, BACK), 1))),
    5: (3, (*MOVED, (go(0, CLOSE), 1))),
    6: (4, (*MOVED, (go(0, OFF), 1))),
}

# Who is away, who is for it, who is against it, the chair's; and whether it is carried.
EDGES = {
    0: (
        ((), [0], [1], 0, 1), ((), [0], [1], 2, 1), ((), [1], [0], 0, 0), ((), [1], [0], 1, 0),
        ((), [0], [1, 2], 0, 0), ((), [0], [1, 2], 1, 1), ((), [0], [1, 2], 2, 0),
        ((), [3], [0, 1, 2], 0, 0), ((), [3], [0, 1, 2], 1, 1), ((), [3], [0, 1, 2], 2, 0),
        ((), [], [], 0, 0), ((), [], [], 1, 1), ((), [], [], 2, 0),
        ((), [1], [], 0, 1), ((), [], [1], 1, 0), ((3,), [1], [], 2, 1),
    ),
    1: (
        ((), [3], [], 0, 0), ((), [3], [], 1, 0), ((), [3], [0, 1, 2], 1, 0), ((), [3, 1], [], 0, 1),
        ((), [1, 3], [0, 2], 2, 1), ((), [0, 1], [], 1, 0), ((), [0, 1], [2], 1, 0), ((), [], [], 1, 0),
        ((3,), [0], [], 1, 0), ((3,), [0], [1, 2], 1, 0), ((3,), [0, 1], [], 0, 1), ((3,), [0, 1], [2], 2, 1),
        ((0,), [3], [1, 2], 0, 1), ((0, 1, 2), [3], [], 0, 1),
    ),
    2: (
        ((), [3], [], 0, 0), ((), [3], [], 1, 0), ((), [3], [0, 1, 2], 1, 0), ((), [3, 1], [], 0, 1),
        ((), [1, 3], [0, 2], 2, 1), ((), [0, 1], [], 1, 0), ((), [], [], 1, 0),
        ((3,), [0, 1, 2], [], 1, 0), ((3,), [0, 1], [2], 1, 0), ((0,), [3], [], 1, 0), ((0,), [3], [1, 2], 0, 0),
        ((0,), [3, 1], [], 0, 1), ((0, 1), [3, 2], [], 2, 1),
    ),
    3: (
        ((), [3], [0], 0, 1), ((), [3], [1, 2], 2, 1), ((), [3], [0, 1], 0, 0), ((), [3], [0, 1], 1, 0),
        ((), [0], [1], 0, 1), ((), [0], [1, 2], 1, 0), ((), [1], [], 0, 1), ((), [], [1], 1, 0),
        ((), [], [], 0, 0), ((), [], [], 1, 0), ((3,), [0], [1], 2, 1), ((), [3, 0], [1, 2], 0, 1),
    ),
    4: (
        ((), [1], [], 0, 1), ((), [1], [], 2, 1), ((), [3, 0, 1], [2], 0, 0), ((), [3, 0, 1], [2], 1, 0),
        ((), [3], [0, 1, 2], 1, 0), ((), [], [1], 1, 0), ((), [], [], 0, 0), ((), [], [], 1, 0),
        ((3,), [1], [], 0, 1), ((), [0, 1, 2, 3], [], 0, 1),
    ),
}


def weight(those):
    return sum(WEIGHTS[number] for number in those)


def rules(place, kind, other):
    kinds = [other] * 5
    kinds[place] = kind
    return kinds


class Majorities(LineCase):
    def check_edges(self, kind):
        for sort, (place, steps) in QUESTIONS.items():
            for away, those_for, against, chair, carried in EDGES[kind]:
                with self.subTest(sort=sort, away=away, those_for=those_for, against=against, chair=chair):
                    motion = steps[-1][1]
                    self.check(
                        (begins(1, *rules(place, kind, (kind + 1) % 5)), 0), *members(*WEIGHTS), *steps,
                        *[(comes(number, 0), 0) for number in away], (asked(), [sort, motion, 0]),
                        (vote(those_for, against, chair), [carried, weight(those_for), weight(against)]),
                        (votes(), [1, motion, sort, carried]))

    def test_0_simple(self):
        self.check_edges(0)

    def test_1_half_of_those_there(self):
        self.check_edges(1)

    def test_2_half_of_all(self):
        self.check_edges(2)

    def test_3_two_thirds(self):
        self.check_edges(3)

    def test_4_nobody_against(self):
        self.check_edges(4)

    def test_two_thirds_just_missed(self):
        hall = ((begins(1, 3, 3, 3, 3, 3), 0), *members(66, 65, 33, 34, 1))
        for sort, (place, steps) in QUESTIONS.items():
            with self.subTest(sort=sort):
                self.check(*hall, *steps, (vote([0], [2]), [1, 66, 33]))
                self.check(*hall, *steps, (vote([1], [2], 1), [0, 65, 33]))
                self.check(*hall, *steps, (vote([0], [3], 1), [0, 66, 34]))
                self.check(*hall, *steps, (vote([1, 4], [2]), [1, 66, 33]))

    def test_odd_halves(self):
        hall = members(3, 2, 2)
        for kind in (1, 2):
            with self.subTest(kind=kind):
                self.check((begins(1, kind), 0), *hall, *MOVED, (vote([0], [], 1), [0, 3, 0]))
                self.check((begins(1, kind), 0), *hall, *MOVED, (vote([1, 2], [0]), [1, 4, 3]))

    def test_each_sort_has_its_own_rule(self):
        for sort, (place, steps) in QUESTIONS.items():
            with self.subTest(sort=sort):
                self.check((begins(1, *rules(place, 4, 0)), 0), *members(*WEIGHTS), *steps, (vote([3], [1]), [0, 4, 1]))
                self.check((begins(1, *rules(place, 0, 4)), 0), *members(*WEIGHTS), *steps, (vote([3], [1]), [1, 4, 1]))

    def test_the_rules_at_first(self):
        for sort, (place, steps) in QUESTIONS.items():
            with self.subTest(sort=sort):
                hall = (*members(3, 2, 1), *steps)
                simple = sort != 5
                self.check(*hall, (vote([0], [1]), [1 if simple else 0, 3, 2]))
                self.check(*hall, (vote([1], [2]), [1, 2, 1]))
                self.check(*hall, (vote([0], [1, 2], 1), [1 if simple else 0, 3, 3]))
                self.check(*hall, (vote([], [], 1), [1 if simple else 0, 0, 0]))

    def test_members_that_come_late_or_go_are_weighed_as_they_are_now(self):
        self.check((begins(1, 1), 0), *members(1, 1), (move(0, [5]), 0), (member(2), 2), (vote([0, 1]), [0, 2, 0]),
                   (move(0, [6]), 1), (comes(2, 0), 0), (vote([0, 1]), [1, 2, 0]), (votes(), [2, 0, 1, 0, 1, 1, 1]))
        self.check((begins(1, 2), 0), *members(1, 1), (move(0, [5]), 0), (member(2), 2), (comes(2, 0), 0),
                   (vote([0, 1]), [0, 2, 0]))

    def test_a_mover_who_is_away(self):
        self.check(*members(1, 2), *MOVED, (comes(0, 0), 0), (vote([1]), [1, 2, 0]))

    def test_twenty_members(self):
        self.check(*members(*[100] * 20), *MOVED, (vote(range(11), range(11, 20)), [1, 1100, 900]))


class Quorum(LineCase):
    def test_one_at_first(self):
        self.check(*members(1, 1), *MOVED, (comes(0, 0), 0), (comes(1, 0), 0), (vote([]), -7), (vote([], [], 1), -7),
                   (comes(1, 1), 0), (vote([1]), [1, 1, 0]))

    def test_just_reached_and_just_missed(self):
        for sort, (place, steps) in QUESTIONS.items():
            with self.subTest(sort=sort):
                self.check((begins(5), 0), *members(2, 3, 4), *steps, (comes(2, 0), 0), (vote([0]), [1, 2, 0]))
                self.check((begins(5), 0), *members(2, 3, 4), *steps, (comes(1, 0), 0), (comes(0, 0), 0),
                           (vote([2], [], 1), -7), (vote([]), -7), (votes(), [0]), (asked(), [sort, steps[-1][1], 0]),
                           (comes(1, 1), 0), (vote([2]), [1, 4, 0]))
                self.check((begins(10), 0), *members(2, 3, 4), *steps, (vote([0, 1, 2]), -7))

    def test_those_who_do_not_vote_are_there(self):
        self.check((begins(9), 0), *members(2, 3, 4), *MOVED, (vote([]), [0, 0, 0]), (votes(), [1, 0, 1, 0]))

    def test_none_is_needed_and_nobody_is_there(self):
        hall = ((begins(0), 0), *members(7), *MOVED, (comes(0, 0), 0))
        self.check(*hall, (vote([]), [0, 0, 0]), (asked(), 0))
        self.check(*hall, (vote([], [], 1), [1, 0, 0]), (votes(), [1, 0, 1, 1]))
        self.check(*hall, (vote([], [], 2), [0, 0, 0]))
        self.check(*hall, (vote([0], [], 1), -3), (vote([], [0]), -3))
        for kind in (1, 2, 3, 4):
            with self.subTest(kind=kind):
                self.check((begins(0, kind), 0), *members(7), *MOVED, (comes(0, 0), 0), (vote([], [], 1), [0, 0, 0]))

    def test_more_than_all_can_weigh(self):
        self.check((begins(BIG), 0), *members(100), *MOVED, (vote([0]), -7))


class Refusals(LineCase):
    def test_nothing_is_there(self):
        self.check((vote([]), -4), *members(1, 1), (vote([0]), -4), *MOVED, (vote([0]), [1, 1, 0]), (vote([0]), -4),
                   (votes(), [1, 0, 1, 1]))

    def test_nothing_there_counts_first(self):
        self.check((begins(9), 0), *members(1, 1), (comes(1, 0), 0), (vote([2]), -4), (vote([0, 0]), -4),
                   (vote([0], [], 3), -4), (vote([1]), -4), (vote([0]), -4), (vote([2, 2], [1], 3), -4))

    def test_no_such_member(self):
        self.check(*members(1, 1), *MOVED, (vote([2]), -2), (vote([], [2]), -2), (vote([0, BIG]), -2),
                   (vote([0], [1, 2]), -2), (vote([2], [0, 1]), -2), (vote([0], [1]), [0, 1, 1]))

    def test_no_such_member_counts_before_the_others(self):
        self.check((begins(9), 0), *members(1, 1), *MOVED, (comes(1, 0), 0), (vote([0, 0, 2]), -2), (vote([2, 2]), -2),
                   (vote([2], [], 3), -2), (vote([1, 2]), -2), (vote([1], [2]), -2), (vote([0], [2]), -2),
                   (vote([1, 1], [2], 3), -2))

    def test_told_twice(self):
        self.check(*members(1, 1, 1), *MOVED, (vote([0, 0]), -1), (vote([], [1, 1]), -1), (vote([0], [0]), -1),
                   (vote([0, 1], [2, 0]), -1), (vote([0, 1, 0]), -1), (vote([2], [1, 0, 1]), -1),
                   (vote([0, 1], [2]), [1, 2, 1]))

    def test_forty_members_told(self):
        self.check(*members(*[1] * 20), *MOVED, (vote(range(20), range(20)), -1), (vote(range(40)), -2),
                   (vote([], range(39, -1, -1)), -2), (vote(range(20)), [1, 20, 0]))

    def test_the_chair(self):
        self.check(*members(1), *MOVED, (vote([0], [], 3), -1), (vote([], [], 3), -1), (vote([0], [], BIG), -1),
                   (vote([0], [], 2), [1, 1, 0]))

    def test_wrong_input_counts_before_those_who_are_away_and_the_quorum(self):
        self.check((begins(9), 0), *members(1, 1), *MOVED, (comes(1, 0), 0), (vote([1, 1]), -1), (vote([1], [1]), -1),
                   (vote([1], [], 3), -1), (vote([0], [], 3), -1), (vote([0, 0]), -1), (vote([1, 0, 0]), -1))

    def test_away(self):
        self.check(*members(1, 1, 1), *MOVED, (comes(1, 0), 0), (vote([1]), -3), (vote([], [1]), -3),
                   (vote([0, 1], [2]), -3), (vote([0], [2, 1]), -3), (comes(1, 1), 0), (vote([0, 1], [2]), [1, 2, 1]))

    def test_away_counts_before_the_quorum(self):
        self.check((begins(9), 0), *members(1, 1), *MOVED, (comes(1, 0), 0), (vote([1]), -3), (vote([0], [1], 1), -3),
                   (vote([0]), -7))

    def test_a_refused_vote_changes_nothing(self):
        refused = ((vote([4]), -2), (vote([0, 0]), -1), (vote([3]), -3))
        for sort, (place, steps) in QUESTIONS.items():
            with self.subTest(sort=sort):
                self.check(*members(3, 2, 1, 1), *steps, (comes(3, 0), 0), *refused, (asked(), [sort, steps[-1][1], 0]),
                           (votes(), [0]), (vote([0], [2]), [1, 3, 1]), (votes(), [1, steps[-1][1], sort, 1]))

    def test_a_withdrawn_motion_is_not_voted_on(self):
        self.check(*members(1), *AMENDED, (withdraw(0), 0), (vote([0]), [1, 1, 0]), (votes(), [1, 0, 1, 1]),
                   (text(), -4))

    def test_begins_brings_its_quorum_and_rules(self):
        self.check((begins(9, 4), 0), *members(1, 1), *MOVED, (vote([0, 1]), -7), (begins(2, 4), 0), *members(1, 1, 1),
                   *MOVED, (vote([0, 1], [2]), [0, 2, 1]), (begins(), 0), *members(2, 1), *MOVED, (comes(1, 0), 0),
                   (text(), told([11, 12])), (vote([0]), [1, 2, 0]))


if __name__ == "__main__":
    unittest.main()

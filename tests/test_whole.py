"""What is promised over all calls together, on many lines drawn by a fixed seed.

Every word that's passed was moved, and that motion was carried; a vote changes the text only as it
says; and nothing's carried without enough of the assembly there.
"""

import random
import unittest

from assemblyhall.floor import answers
from lines import (amend, asked, begins, comes, divide, flat, go, member, move, passed, split, take, text, told, vote,
                   votes, who, withdraw)

WEIGHTS = (1, 2, 3, 4)
MOVE, AMEND, VOTE = 3, 4, 9


class Drawing:
    """Draws a line; no two words in it are the same, so that a word tells its motion."""

    def __init__(self, seed):
        self.chance = random.Random(seed)
        self.last_word = 0
        self.quorum = self.chance.choice((0, 1, 3, 6, 8))
        self.kinds = [self.chance.choice((0, 0, 1, 2, 3, 4)) for place in range(5)]

    def words(self, least):
        first = self.last_word + 1
        many = self.chance.randint(least, 4)
        self.last_word += many
        return list(range(first, first + many))

    def by(self):
        return self.chance.randrange(len(WEIGHTS))

    def draw_amend(self):
        i = self.chance.randint(0, 3)
        return amend(self.by(), i, i + self.chance.randint(0, 2), self.words(0))

    def draw_vote(self):
        order = list(range(len(WEIGHTS)))
        self.chance.shuffle(order)
        voting = order[:self.chance.randint(0, 4)]
        many = self.chance.randint(len(voting) // 2, len(voting))
        return vote(voting[:many], voting[many:], self.chance.randint(0, 2))

    def draw_call(self):
        draw = self.chance.random()
        if draw < 0.15:
            return move(self.by(), self.words(1))
        if draw < 0.35:
            return self.draw_amend()
        if draw < 0.45:
            return go(self.by(), self.chance.randrange(3))
        if draw < 0.55:
            return divide(self.by(), self.chance.randint(1, 3))
        if draw < 0.6:
            return withdraw(self.by())
        if draw < 0.65:
            return take(self.by(), self.chance.randrange(2))
        if draw < 0.75:
            return comes(self.by(), self.chance.choice((0, 1, 1)))
        return self.draw_vote()

    def calls(self):
        opening = [begins(self.quorum, *self.kinds)] + [member(weight) for weight in WEIGHTS]
        return opening + [self.draw_call() for place in range(60)]


def read_text(answer):
    """Parts, words, the amendment and that to it, from what text answers; None if there's nothing."""
    if answer == [-4]:
        return None
    numbers = list(answer)

    def some(many):
        head = numbers[:many]
        del numbers[:many]
        return head

    parts, many = some(2)
    words = some(many)
    changes = []
    while numbers:
        change = None
        if some(1) == [1]:
            i, j, many = some(3)
            change = (i, j, some(many))
        changes.append(change)
    return parts, words, changes[0], changes[1]


def changed(words, change):
    return words[:change[0]] + change[2] + words[change[1]:]


def after_vote(before, sort, carried):
    """What text answers after a vote, or None where another part's words are to come."""
    parts, words, amendment, further = before
    if carried and sort in (4, 6):
        return [-4]
    if sort == 1:
        return None if parts > 1 else [-4]
    if sort == 2:
        return told(changed(words, amendment) if carried else words, parts)
    if sort == 3 and carried:
        amendment = (amendment[0], amendment[1], changed(amendment[2], further))
    if sort == 3:
        further = None
    return told(words, parts, amendment, further)


class Story:
    """One drawn line, with what is asked, the text and the votes told behind each call."""

    def __init__(self, seed):
        drawing = Drawing(seed)
        self.quorum = drawing.quorum
        self.calls = drawing.calls()
        line = flat([[*call, *asked(), *text(), *votes()] for call in self.calls])
        rows = split(answers(line))
        self.answers = rows[0::4]
        self.asked = rows[1::4]
        self.texts = rows[2::4]
        self.votes = rows[3::4]
        # Once more without the telling between, and with the passed texts and their words behind.
        carried = [step for step in self.taken_votes() if self.answers[step][0] == 1]
        self.many_passed = len([step for step in carried if self.asked[step - 1][0] == 1])
        wanted = [passed(number) for number in range(self.many_passed + 1)]
        self.passed = split(answers(flat(self.calls + wanted)))[len(self.calls):]
        self.places = [(number, place) for number, row in enumerate(self.passed) for place in range(row[0])]
        wanted = [who(number, place) for number, place in self.places]
        self.brought = split(answers(flat(self.calls + wanted)))[len(self.calls):]

    def taken_votes(self):
        return [step for step, call in enumerate(self.calls) if call[0] == VOTE and self.answers[step][0] >= 0]


class Promises(unittest.TestCase):
    @classmethod
    def setUpClass(cls):
        cls.stories = [Story(seed) for seed in range(150)]

    def test_a_vote_changes_the_text_only_as_it_says(self):
        for story in self.stories:
            for step in story.taken_votes():
                before = read_text(story.texts[step - 1])
                expected = after_vote(before, story.asked[step - 1][0], story.answers[step][0])
                if expected is None:
                    parts, words, amendment, further = read_text(story.texts[step])
                    self.assertEqual((parts, amendment, further), (before[0] - 1, None, None))
                    self.assertEqual(story.asked[step], story.asked[step - 1])
                else:
                    self.assertEqual(story.texts[step], expected)

    def test_other_calls_change_no_words_that_are_there(self):
        for story in self.stories:
            for step, call in enumerate(story.calls):
                if call[0] in (2, 5) or story.answers[step][0] < 0:
                    self.assertEqual(story.texts[step - 1], story.texts[step])
                if call[0] == AMEND and story.answers[step][0] >= 0:
                    self.assertEqual(read_text(story.texts[step - 1])[:2], read_text(story.texts[step])[:2])

    def test_votes_are_told_as_they_were_taken(self):
        for story in self.stories:
            expected = [0]
            for step in range(len(story.calls)):
                if step in story.taken_votes():
                    sort, motion, mover = story.asked[step - 1]
                    expected = [expected[0] + 1, *expected[1:], motion, sort, story.answers[step][0]]
                self.assertEqual(story.votes[step], expected)

    def test_nothing_is_carried_without_enough_there(self):
        for story in self.stories:
            there = [1] * len(WEIGHTS)
            for step, call in enumerate(story.calls):
                if call[0] == 2:
                    there[call[2]] = call[3]
                enough = sum(weight for weight, here in zip(WEIGHTS, there) if here) >= story.quorum
                if call[0] == VOTE and not enough:
                    self.assertLess(story.answers[step][0], 0)

    def test_passed_are_the_texts_that_were_voted_on(self):
        for story in self.stories:
            expected = []
            for step in story.taken_votes():
                if story.answers[step][0] == 1 and story.asked[step - 1][0] == 1:
                    words = read_text(story.texts[step - 1])[1]
                    expected.append([len(words), *words])
            self.assertEqual(story.passed, expected + [[-6]])

    def test_every_passed_word_was_moved_and_that_motion_was_carried(self):
        for story in self.stories:
            moved, carried, passing = {}, {}, []
            for step, call in enumerate(story.calls):
                first = {MOVE: 3, AMEND: 5}.get(call[0])
                if first is not None and story.answers[step][0] >= 0:
                    for word in call[first:-1]:
                        moved[word] = [story.answers[step][0], call[2]]
                if call[0] == VOTE and story.answers[step][0] == 1:
                    sort, motion, mover = story.asked[step - 1]
                    those_for = call[4:4 + call[3]]
                    if sort == 1:
                        passing.append((motion, those_for))
                    else:
                        carried[motion] = those_for
            for (number, place), brought in zip(story.places, story.brought):
                word = story.passed[number][1 + place]
                main, those_for = passing[number]
                motion = moved[word][0]
                self.assertEqual(brought, moved[word] + (those_for if motion == main else carried[motion]))

    def test_the_lines_show_enough(self):
        # Were they all refused, the tests above would say nothing.
        sorts = {(story.asked[step - 1][0], story.answers[step][0]) for story in self.stories
                 for step in story.taken_votes()}
        self.assertEqual(sorts, {(sort, carried) for sort in range(1, 7) for carried in (0, 1)})
        self.assertGreater(sum(story.many_passed for story in self.stories), 100)


if __name__ == "__main__":
    unittest.main()

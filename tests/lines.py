"""Writes the calls as the interface does, and checks a line's answers."""

import unittest

from assemblyhall.floor import answers

BIG = 4294967295
BACK, CLOSE, OFF = 0, 1, 2


def call(number, *numbers):
    return [number, len(numbers), *numbers, 0]


def begins(quorum=1, main=0, amendments=0, back=0, close=3, off=0):
    return call(0, quorum, main, amendments, back, close, off)


def member(weight=1):
    return call(1, weight)


def comes(by, there):
    return call(2, by, there)


def move(by, words):
    return call(3, by, *words)


def amend(by, i, j, words):
    return call(4, by, i, j, *words)


def go(by, how):
    return call(5, by, how)


def divide(by, place):
    return call(6, by, place)


def withdraw(by):
    return call(7, by)


def take(by, which):
    return call(8, by, which)


def vote(those_for, those_against=(), chair=0):
    return call(9, chair, len(those_for), *those_for, *those_against)


def asked():
    return call(10)


def text():
    return call(11)


def passed(which):
    return call(12, which)


def who(which, place):
    return call(13, which, place)


def votes():
    return call(14)


def told(words, parts=1, amendment=None, further=None):
    """What text answers; an amendment is i, j and its words."""
    numbers = [parts, len(words), *words]
    for change in (amendment, further):
        if change is None:
            numbers.append(0)
        else:
            numbers.extend([1, change[0], change[1], len(change[2]), *change[2]])
    return numbers


def numbered(first, many):
    return list(range(first, first + many))


def members(*weights):
    """The steps by which members of these weights come to be."""
    return [(member(weight), number) for number, weight in enumerate(weights)]


def flat(rows):
    return [number for row in rows for number in row]


def split(given):
    """The answers, call by call."""
    rows = []
    place = 0
    while place < len(given):
        end = place + 1 + given[place]
        rows.append(given[place + 1:end])
        place = end
    return rows


def numbers_of(answer):
    return answer if isinstance(answer, list) else [answer]


class LineCase(unittest.TestCase):
    def check(self, *steps):
        """Each step is a call and its answer: a list of numbers, or the one number.

        Beside the answers, every line shows that what is handed in stays as it was, that a second
        time answers as the first, and that refusals change nothing: the line without its refused
        calls answers as the line with them.
        """
        self.check_line(steps)
        taken = [step for step in steps if numbers_of(step[1])[0] >= 0]
        if taken and len(taken) < len(steps):
            self.check_line(taken)

    def check_line(self, steps):
        line = flat([step[0] for step in steps])
        before = list(line)
        expected = [numbers_of(step[1]) for step in steps]
        given = answers(line)
        self.assertEqual(split(given), expected)
        self.assertEqual(given, flat([[len(row), *row] for row in expected]))
        self.assertEqual([number.__class__ for number in given], [int] * len(given))
        self.assertEqual(line, before)
        self.assertEqual(answers(line), given)

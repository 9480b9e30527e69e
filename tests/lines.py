"""Writes the calls as the interface does, and checks a line's answers."""

import unittest

from assemblyhall.floor import answers

BACK, CLOSE, OFF = 0, 1, 2


def call(number, *numbers):
    return [number, len(numbers), *numbers, 0]


def begins(quorum=1, main=0, amendments=0, back=0, close=3, off=0):
    return call(0, quorum, main, amendments, back, close, off)


def member(weight=1):
    return call(1, weight)


def comes(who, there):
    return call(2, who, there)


def move(who, words):
    return call(3, who, *words)


def amend(who, i, j, words):
    return call(4, who, i, j, *words)


def go(who, how):
    return call(5, who, how)


def divide(who, place):
    return call(6, who, place)


def withdraw(who):
    return call(7, who)


def flat(rows):
    return [number for row in rows for number in row]


class LineCase(unittest.TestCase):
    def check(self, *steps):
        """Each step is a call and the one number that answers it.

        Beside the answers, every line shows that what is handed in stays as it was, that a second
        time answers as the first, and that refusals change nothing: the line without its refused
        calls answers as the line with them.
        """
        self.check_line(steps)
        taken = [step for step in steps if step[1] >= 0]
        if taken and len(taken) < len(steps):
            self.check_line(taken)

    def check_line(self, steps):
        line = flat([step[0] for step in steps])
        before = list(line)
        expected = flat([[1, step[1]] for step in steps])
        told = answers(line)
        self.assertEqual(told, expected)
        self.assertEqual([number.__class__ for number in told], [int] * len(told))
        self.assertEqual(line, before)
        self.assertEqual(answers(line), expected)

"""What the calls keep for the votes, which no answer tells yet."""

import unittest

from assemblyhall.floor import call_begins
from assemblyhall.hall import Assembly
from assemblyhall.members import admit
from assemblyhall.motions import amend, go, move
from assemblyhall.questions import asked_motion, asked_sort
from lines import BACK, CLOSE, OFF


class Beginning(unittest.TestCase):
    def test_at_first(self):
        assembly = Assembly()
        self.assertEqual(assembly.quorum, 1)
        self.assertEqual(assembly.rules, (0, 0, 0, 3, 0))

    def test_as_begins_tells(self):
        assembly = Assembly()
        self.assertEqual(call_begins(assembly, [7, 4, 3, 2, 1, 0]), [0])
        self.assertEqual(assembly.quorum, 7)
        self.assertEqual(assembly.rules, (4, 3, 2, 1, 0))


class Asked(unittest.TestCase):
    def asked(self):
        return (asked_sort(self.assembly.main), asked_motion(self.assembly.main))

    def test_what_is_asked(self):
        self.assembly = Assembly()
        admit(self.assembly, 1)
        move(self.assembly, 0, [5])
        self.assertEqual(self.asked(), (1, 0))
        amend(self.assembly, 0, 0, 0, [6])
        self.assertEqual(self.asked(), (2, 1))
        amend(self.assembly, 0, 0, 0, [7])
        self.assertEqual(self.asked(), (3, 2))
        go(self.assembly, 0, BACK)
        self.assertEqual(self.asked(), (4, 3))
        go(self.assembly, 0, CLOSE)
        self.assertEqual(self.asked(), (5, 4))
        go(self.assembly, 0, OFF)
        self.assertEqual(self.asked(), (6, 5))


if __name__ == "__main__":
    unittest.main()

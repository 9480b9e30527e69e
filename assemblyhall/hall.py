"""What an assembly keeps: its members, its motions, what is before it, and what came of its votes."""

FIRST_QUORUM = 1

# The kinds of majority for main motions, amendments, to send back, to close, to put off.
FIRST_RULES = (0, 0, 0, 3, 0)


# A word of a text, which keeps the motion with which it came wherever votes put it.
class Word:
    def __init__(self, number, motion):
        self.number = number
        self.motion = motion


# Words for the places from start up to stop: of the text, or of another amendment's words.
class Amendment:
    def __init__(self, motion, start, stop, words):
        self.motion = motion
        self.start = start
        self.stop = stop
        self.words = words


# A motion how to go on; how is also its rank: 0 send back, 1 close, 2 put off.
class WayOn:
    def __init__(self, motion, how):
        self.motion = motion
        self.how = how


# A text before the assembly, with all that goes with it.
class MainMotion:
    def __init__(self, motion, words):
        self.motion = motion
        self.words = words
        self.parts_to_come = []
        self.amendment = None
        self.further_amendment = None
        self.ways_on = []
        self.closed = False


# Voters are those who were for it in the vote that passed it.
class PassedText:
    def __init__(self, motion, words, voters):
        self.motion = motion
        self.words = words
        self.voters = voters


# A vote that was taken, and what was asked in it, as the call asked tells that.
class Vote:
    def __init__(self, motion, asked, carried):
        self.motion = motion
        self.asked = asked
        self.carried = carried


# One assembly. Members, motions, texts put off and passed texts are known by their places in the lists.
class Assembly:
    def __init__(self):
        self.begin(FIRST_QUORUM, FIRST_RULES)

    def begin(self, quorum, rules):
        self.quorum = quorum
        self.rules = rules
        self.weights = []
        self.there = []
        self.movers = []
        self.main = None
        self.put_off = []
        self.passed = []
        self.votes = []
        # By the motion of each amendment, of either sort, that was carried: who voted for it.
        self.amendment_voters = {}

"""What an assembly keeps: its members, its motions, and what is before it."""

FIRST_QUORUM = 1

# The kinds of majority for main motions, amendments, to send back, to close, to put off.
FIRST_RULES = (0, 0, 0, 3, 0)


# Words for the places from start up to stop: of the text, or of another amendment's words.
class Amendment:
    def __init__(self, motion, start, stop, words):
        self.motion = motion
        self.start = start
        self.stop = stop
        self.words = words


# A motion how to go on; how is also its rank: 0 send back, 1 close, 2 put off.
class WayOn:
    def __init__(self, motion, how):
        self.motion = motion
        self.how = how


# A text before the assembly, with all that goes with it.
class MainMotion:
    def __init__(self, motion, words):
        self.motion = motion
        self.words = words
        self.parts_to_come = []
        self.amendment = None
        self.further_amendment = None
        self.ways_on = []
        self.closed = False


# One assembly. Members and motions are known by their places in the lists.
class Assembly:
    def __init__(self):
        self.begin(FIRST_QUORUM, FIRST_RULES)

    def begin(self, quorum, rules):
        self.quorum = quorum
        self.rules = rules
        self.weights = []
        self.there = []
        self.movers = []
        self.main = None

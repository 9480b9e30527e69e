"""The members: who they are, and whether they are there."""

from assemblyhall.refusals import AWAY, FULL, NO_REFUSAL, UNKNOWN, WRONG

MOST_MEMBERS = 20
MOST_WEIGHT = 100


def is_member(assembly, member):
    return member < len(assembly.weights)


# The refusal of a call by one who is no member or is away.
def absence(assembly, member):
    if not is_member(assembly, member):
        return UNKNOWN
    if not assembly.there[member]:
        return AWAY
    return NO_REFUSAL


def weigh(assembly, members):
    return sum([assembly.weights[member] for member in members])


def weigh_those_there(assembly):
    return weigh(assembly, [member for member in range(len(assembly.weights)) if assembly.there[member]])


def admit(assembly, weight):
    if weight < 1 or weight > MOST_WEIGHT:
        return WRONG
    if len(assembly.weights) >= MOST_MEMBERS:
        return FULL
    assembly.weights.append(weight)
    assembly.there.append(True)
    return len(assembly.weights) - 1


def comes(assembly, member, there):
    if not is_member(assembly, member):
        return UNKNOWN
    assembly.there[member] = there == 1
    return 0

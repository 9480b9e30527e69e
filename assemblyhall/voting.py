"""The call vote: whether it may be taken, and whether what is asked is carried."""

from assemblyhall.hall import Vote
from assemblyhall.members import is_member, weigh, weigh_those_there
from assemblyhall.questions import asked_motion, asked_sort, carry_asked, drop_asked
from assemblyhall.refusals import AWAY, NO_QUORUM, NO_REFUSAL, OUT_OF_ORDER, UNKNOWN, WRONG

# The kinds of majority, beside the last: something for it, and nobody against it.
SIMPLE = 0
HALF_OF_THOSE_THERE = 1
HALF_OF_ALL = 2
TWO_THIRDS = 3

CHAIR_FOR = 1
CHAIR_AGAINST = 2

# By what is asked, which begins at 1: the place of its kind of majority among the assembly's rules.
RULE_PLACES = (None, 0, 1, 1, 2, 3, 4)


# The checks stand in the order in which the refusals count.
def vote_refusal(assembly, chair, members):
    if assembly.main is None:
        return OUT_OF_ORDER
    if not all([is_member(assembly, member) for member in members]):
        return UNKNOWN
    if chair > CHAIR_AGAINST or len(set(members)) < len(members):
        return WRONG
    if not all([assembly.there[member] for member in members]):
        return AWAY
    if weigh_those_there(assembly) < assembly.quorum:
        return NO_QUORUM
    return NO_REFUSAL


def is_carried(assembly, chair, weight_for, weight_against):
    kind = assembly.rules[RULE_PLACES[asked_sort(assembly.main)]]
    if kind == SIMPLE:
        return weight_for > weight_against or (weight_for == weight_against and chair == CHAIR_FOR)
    if kind == HALF_OF_THOSE_THERE:
        return 2 * weight_for > weigh_those_there(assembly)
    if kind == HALF_OF_ALL:
        return 2 * weight_for > sum(assembly.weights)
    if kind == TWO_THIRDS:
        return weight_for > 0 and 3 * weight_for >= 2 * (weight_for + weight_against)
    # Every member weighs something, so nothing against it means that nobody is.
    return weight_for > 0 and weight_against == 0


def vote(assembly, chair, those_for, those_against):
    refusal = vote_refusal(assembly, chair, those_for + those_against)
    if refusal != NO_REFUSAL:
        return [refusal]
    weight_for = weigh(assembly, those_for)
    weight_against = weigh(assembly, those_against)
    carried = 1 if is_carried(assembly, chair, weight_for, weight_against) else 0
    assembly.votes.append(Vote(asked_motion(assembly.main), asked_sort(assembly.main), carried))
    if carried == 1:
        carry_asked(assembly, those_for)
    else:
        drop_asked(assembly)
    return [carried, weight_for, weight_against]

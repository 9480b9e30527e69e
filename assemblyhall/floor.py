"""The assembly's floor: a line of calls goes in, and the answers come out."""

from assemblyhall.hall import Assembly
from assemblyhall.members import admit, comes
from assemblyhall.motions import amend, divide, go, move, take, withdraw
from assemblyhall.telling import tell_asked, tell_passed, tell_text, tell_votes, tell_who
from assemblyhall.voting import vote


def call_begins(assembly, numbers):
    assembly.begin(numbers[0], tuple(numbers[1:]))
    return [0]


def call_member(assembly, numbers):
    return [admit(assembly, numbers[0])]


def call_comes(assembly, numbers):
    return [comes(assembly, numbers[0], numbers[1])]


def call_move(assembly, numbers):
    return [move(assembly, numbers[0], numbers[1:])]


def call_amend(assembly, numbers):
    return [amend(assembly, numbers[0], numbers[1], numbers[2], numbers[3:])]


def call_go(assembly, numbers):
    return [go(assembly, numbers[0], numbers[1])]


def call_divide(assembly, numbers):
    return [divide(assembly, numbers[0], numbers[1])]


def call_withdraw(assembly, numbers):
    return [withdraw(assembly, numbers[0])]


def call_take(assembly, numbers):
    return [take(assembly, numbers[0], numbers[1])]


def call_vote(assembly, numbers):
    behind_those_for = 2 + numbers[1]
    return vote(assembly, numbers[0], numbers[2:behind_those_for], numbers[behind_those_for:])


def call_asked(assembly, numbers):
    return tell_asked(assembly)


def call_text(assembly, numbers):
    return tell_text(assembly)


def call_passed(assembly, numbers):
    return tell_passed(assembly, numbers[0])


def call_who(assembly, numbers):
    return tell_who(assembly, numbers[0], numbers[1])


def call_votes(assembly, numbers):
    return tell_votes(assembly)


# By the calls' numbers; each answers the list of its numbers, since some calls answer several.
CALLS = (
    call_begins,
    call_member,
    call_comes,
    call_move,
    call_amend,
    call_go,
    call_divide,
    call_withdraw,
    call_take,
    call_vote,
    call_asked,
    call_text,
    call_passed,
    call_who,
    call_votes,
)


# The answers to a line of calls on a new assembly, each behind how many numbers it has.
def answers(calls):
    assembly = Assembly()
    told = []
    place = 0
    while place < len(calls):
        call = CALLS[calls[place]]
        first = place + 2
        end = first + calls[place + 1]
        answer = call(assembly, calls[first:end])
        told.append(len(answer))
        told.extend(answer)
        # No call has lists: what stands at the end is their count, 0.
        place = end + 1
    return told

"""The assembly's floor: a line of calls goes in, and the answers come out."""

from assemblyhall.hall import Assembly
from assemblyhall.members import admit, comes
from assemblyhall.motions import amend, divide, go, move, withdraw


def call_begins(assembly, numbers):
    assembly.begin(numbers[0], tuple(numbers[1:]))
    return [0]


def call_member(assembly, numbers):
    return [admit(assembly, numbers[0])]


def call_comes(assembly, numbers):
    return [comes(assembly, numbers[0], numbers[1])]


def call_move(assembly, numbers):
    return [move(assembly, numbers[0], numbers[1:])]


def call_amend(assembly, numbers):
    return [amend(assembly, numbers[0], numbers[1], numbers[2], numbers[3:])]


def call_go(assembly, numbers):
    return [go(assembly, numbers[0], numbers[1])]


def call_divide(assembly, numbers):
    return [divide(assembly, numbers[0], numbers[1])]


def call_withdraw(assembly, numbers):
    return [withdraw(assembly, numbers[0])]


# By the calls' numbers; each answers the list of its numbers, since some calls answer several.
CALLS = (
    call_begins,
    call_member,
    call_comes,
    call_move,
    call_amend,
    call_go,
    call_divide,
    call_withdraw,
)


# The answers to a line of calls on a new assembly, each behind how many numbers it has.
def answers(calls):
    assembly = Assembly()
    told = []
    place = 0
    while place < len(calls):
        call = CALLS[calls[place]]
        first = place + 2
        end = first + calls[place + 1]
        answer = call(assembly, calls[first:end])
        told.append(len(answer))
        told.extend(answer)
        # No call has lists: what stands at the end is their count, 0.
        place = end + 1
    return told

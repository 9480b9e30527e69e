"""The calls by which members move motions, divide a text, withdraw what is asked, and take up what was put off.

Each call's checks stand in the order in which its refusals count.
"""

from assemblyhall.hall import Amendment, MainMotion, WayOn, Word
from assemblyhall.members import absence
from assemblyhall.questions import MAIN, PUT_OFF, SEND_BACK, asked_motion, asked_sort, drop_asked, how_many_parts
from assemblyhall.refusals import FULL, NO_REFUSAL, NOT_THE_MOVER, OUT_OF_ORDER, UNKNOWN, WRONG

MOST_MOTIONS = 100
MOST_WORDS_MOVED = 30
MOST_WORDS_AMENDED = 60
LAST_WORD = 99999


def may_be_moved(words):
    if len(words) > MOST_WORDS_MOVED:
        return False
    for word in words:
        if word < 1 or word > LAST_WORD:
            return False
    return True


def motions_are_full(assembly):
    return len(assembly.movers) >= MOST_MOTIONS


def number_motion(assembly, member):
    assembly.movers.append(member)
    return len(assembly.movers) - 1


def words_of(motion, numbers):
    return [Word(number, motion) for number in numbers]


# The refusals that come first in every call about what is before the assembly.
def absence_or_nothing(assembly, member):
    refusal = absence(assembly, member)
    if refusal != NO_REFUSAL:
        return refusal
    if assembly.main is None:
        return OUT_OF_ORDER
    return NO_REFUSAL


def move_refusal(assembly, member, words):
    refusal = absence(assembly, member)
    if refusal != NO_REFUSAL:
        return refusal
    if len(words) == 0 or not may_be_moved(words):
        return WRONG
    if assembly.main is not None:
        return OUT_OF_ORDER
    if motions_are_full(assembly):
        return FULL
    return NO_REFUSAL


def move(assembly, member, words):
    refusal = move_refusal(assembly, member, words)
    if refusal != NO_REFUSAL:
        return refusal
    motion = number_motion(assembly, member)
    assembly.main = MainMotion(motion, words_of(motion, words))
    return motion


def words_to_amend(main):
    if main.amendment is None:
        return main.words
    return main.amendment.words


# What the amendment's places, and the words that would come of it, have against it.
def place_refusal(assembly, start, stop, words):
    length = len(words_to_amend(assembly.main))
    if start > stop or stop > length:
        return WRONG
    if start == stop and len(words) == 0:
        return WRONG
    if motions_are_full(assembly) or length - (stop - start) + len(words) > MOST_WORDS_AMENDED:
        return FULL
    return NO_REFUSAL


def amend_refusal(assembly, member, start, stop, words):
    refusal = absence_or_nothing(assembly, member)
    if refusal != NO_REFUSAL:
        return refusal
    if not may_be_moved(words):
        return WRONG
    main = assembly.main
    if main.closed or main.ways_on or main.further_amendment is not None:
        return OUT_OF_ORDER
    return place_refusal(assembly, start, stop, words)


def amend(assembly, member, start, stop, words):
    refusal = amend_refusal(assembly, member, start, stop, words)
    if refusal != NO_REFUSAL:
        return refusal
    main = assembly.main
    motion = number_motion(assembly, member)
    amendment = Amendment(motion, start, stop, words_of(motion, words))
    if main.amendment is None:
        main.amendment = amendment
    else:
        main.further_amendment = amendment
    return motion


def go_refusal(assembly, member, how):
    refusal = absence_or_nothing(assembly, member)
    if refusal != NO_REFUSAL:
        return refusal
    main = assembly.main
    if main.closed and SEND_BACK + how != PUT_OFF:
        return OUT_OF_ORDER
    # Each one ranks above those before it, so the last one is the highest.
    if main.ways_on and main.ways_on[-1].how >= how:
        return OUT_OF_ORDER
    if motions_are_full(assembly):
        return FULL
    return NO_REFUSAL


def go(assembly, member, how):
    refusal = go_refusal(assembly, member, how)
    if refusal != NO_REFUSAL:
        return refusal
    motion = number_motion(assembly, member)
    assembly.main.ways_on.append(WayOn(motion, how))
    return motion


def divide_refusal(assembly, member, place):
    refusal = absence_or_nothing(assembly, member)
    if refusal != NO_REFUSAL:
        return refusal
    if asked_sort(assembly.main) != MAIN:
        return OUT_OF_ORDER
    if place < 1 or place >= len(assembly.main.words):
        return WRONG
    return NO_REFUSAL


def divide(assembly, member, place):
    refusal = divide_refusal(assembly, member, place)
    if refusal != NO_REFUSAL:
        return refusal
    main = assembly.main
    main.parts_to_come.insert(0, main.words[place:])
    main.words = main.words[:place]
    return how_many_parts(main)


def withdraw(assembly, member):
    refusal = absence_or_nothing(assembly, member)
    if refusal != NO_REFUSAL:
        return refusal
    if assembly.movers[asked_motion(assembly.main)] != member:
        return NOT_THE_MOVER
    drop_asked(assembly)
    return 0


def take_refusal(assembly, member, which):
    refusal = absence(assembly, member)
    if refusal != NO_REFUSAL:
        return refusal
    if which >= len(assembly.put_off):
        return UNKNOWN
    if assembly.main is not None:
        return OUT_OF_ORDER
    return NO_REFUSAL


def take(assembly, member, which):
    refusal = take_refusal(assembly, member, which)
    if refusal != NO_REFUSAL:
        return refusal
    assembly.main = assembly.put_off.pop(which)
    return asked_sort(assembly.main)

"""What is asked, and what becomes of it when it is carried or dropped."""

from assemblyhall.hall import PassedText

MAIN = 1
AMENDMENT = 2
FURTHER_AMENDMENT = 3

# The motions how to go on follow one another as their ranks do.
SEND_BACK = 4
CLOSE = 5
PUT_OFF = 6


# What is asked, as the first number of the call asked tells it.
def asked_sort(main):
    if main.ways_on:
        return SEND_BACK + main.ways_on[-1].how
    if main.further_amendment is not None:
        return FURTHER_AMENDMENT
    if main.amendment is not None:
        return AMENDMENT
    return MAIN


def asked_motion(main):
    sort = asked_sort(main)
    if sort >= SEND_BACK:
        return main.ways_on[-1].motion
    if sort == FURTHER_AMENDMENT:
        return main.further_amendment.motion
    if sort == AMENDMENT:
        return main.amendment.motion
    return main.motion


def how_many_parts(main):
    return 1 + len(main.parts_to_come)


# The text before the assembly is done with.
def make_way(assembly):
    main = assembly.main
    if main.parts_to_come:
        # The same object stays: the next part has the same motion, and is closed if this one was.
        main.words = main.parts_to_come.pop(0)
    else:
        assembly.main = None


def drop_asked(assembly):
    main = assembly.main
    sort = asked_sort(main)
    if sort >= SEND_BACK:
        main.ways_on.pop()
    elif sort == FURTHER_AMENDMENT:
        main.further_amendment = None
    elif sort == AMENDMENT:
        main.amendment = None
    else:
        make_way(assembly)


def amended(words, amendment):
    return words[:amendment.start] + amendment.words + words[amendment.stop:]


# What a carried question does where the main motion stays, or makes way only for its next part.
def carry_in_place(assembly, voters):
    main = assembly.main
    sort = asked_sort(main)
    if sort == CLOSE:
        main.closed = True
    elif sort == FURTHER_AMENDMENT:
        amendment = main.amendment
        assembly.amendment_voters[asked_motion(main)] = voters
        amendment.words = amended(amendment.words, main.further_amendment)
    elif sort == AMENDMENT:
        assembly.amendment_voters[asked_motion(main)] = voters
        main.words = amended(main.words, main.amendment)
    else:
        assembly.passed.append(PassedText(main.motion, main.words, voters))
    drop_asked(assembly)


def carry_asked(assembly, voters):
    main = assembly.main
    sort = asked_sort(main)
    if sort == PUT_OFF:
        main.ways_on = []
        assembly.put_off.append(main)
        assembly.main = None
    elif sort == SEND_BACK:
        assembly.main = None
    else:
        carry_in_place(assembly, voters)

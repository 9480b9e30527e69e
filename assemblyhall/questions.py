"""What is asked, and what becomes of it when it is dropped."""

MAIN = 1
AMENDMENT = 2
FURTHER_AMENDMENT = 3

# Send back, close and put off follow one another from here, as their ranks do.
SEND_BACK = 4


# What is asked, as the first number of the call asked tells it.
def asked_sort(main):
    if main.ways_on:
        return SEND_BACK + main.ways_on[-1].how
    if main.further_amendment is not None:
        return FURTHER_AMENDMENT
    if main.amendment is not None:
        return AMENDMENT
    return MAIN


def asked_motion(main):
    sort = asked_sort(main)
    if sort >= SEND_BACK:
        return main.ways_on[-1].motion
    if sort == FURTHER_AMENDMENT:
        return main.further_amendment.motion
    if sort == AMENDMENT:
        return main.amendment.motion
    return main.motion


# The text before the assembly is done with.
def make_way(assembly):
    main = assembly.main
    if main.parts_to_come:
        # The same object stays: the next part has the same motion, and is closed if this one was.
        main.words = main.parts_to_come.pop(0)
    else:
        assembly.main = None


def drop_asked(assembly):
    main = assembly.main
    sort = asked_sort(main)
    if sort >= SEND_BACK:
        main.ways_on.pop()
    elif sort == FURTHER_AMENDMENT:
        main.further_amendment = None
    elif sort == AMENDMENT:
        main.amendment = None
    else:
        make_way(assembly)

"""The calls that only tell: what is asked, the texts, who brought a word, and the votes."""

from assemblyhall.questions import asked_motion, asked_sort, how_many_parts
from assemblyhall.refusals import NOTHING_SUCH, OUT_OF_ORDER


def tell_asked(assembly):
    if assembly.main is None:
        return [0]
    motion = asked_motion(assembly.main)
    return [asked_sort(assembly.main), motion, assembly.movers[motion]]


def tell_words(words):
    return [len(words)] + [word.number for word in words]


def tell_amendment(amendment):
    if amendment is None:
        return [0]
    return [1, amendment.start, amendment.stop] + tell_words(amendment.words)


def tell_text(assembly):
    main = assembly.main
    if main is None:
        return [OUT_OF_ORDER]
    told = [how_many_parts(main)] + tell_words(main.words)
    return told + tell_amendment(main.amendment) + tell_amendment(main.further_amendment)


def tell_passed(assembly, text):
    if text >= len(assembly.passed):
        return [NOTHING_SUCH]
    return tell_words(assembly.passed[text].words)


# Who voted for a word: an amendment's word came by its own vote, another by the vote that passed its text.
def voters_for(assembly, passed, word):
    if word.motion == passed.motion:
        return passed.voters
    return assembly.amendment_voters[word.motion]


def tell_who(assembly, text, place):
    if text >= len(assembly.passed):
        return [NOTHING_SUCH]
    passed = assembly.passed[text]
    if place >= len(passed.words):
        return [NOTHING_SUCH]
    word = passed.words[place]
    return [word.motion, assembly.movers[word.motion]] + voters_for(assembly, passed, word)


def tell_votes(assembly):
    told = [len(assembly.votes)]
    for vote in assembly.votes:
        told.extend([vote.motion, vote.asked, vote.carried])
    return told

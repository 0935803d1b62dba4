"""Two callers meet: whose clerk is asked first, and what comes of it.

A party is a tuple (kind, told) of a caller: its told line, and ahead of it the kind itself, or None of a row of
elders; so two parties are the same kind of the family just where their kinds are alike and not None.
"""

from dealclerks.asking import answer
from dealclerks.books import FIRST, GIVES_UP, PLACE, SECOND, SIDED, first_written, need_house, need_sign
from dealclerks.errors import NoSign
from dealclerks.kinds import is_whole
from dealclerks.lines import callers_under, need_caller

# Whose asking it is, as asked and in_place tell it.
FORE = 0
BACK = 1
IN_PLACE = 2


def need_party(lines, caller):
    told = need_caller(lines, caller)
    return (caller if is_whole(caller) else None), told


def all_parties(lines):
    """The list of the tuples (caller, party) of all callers, in the callers' order."""
    return [(caller, need_party(lines, caller)) for caller in callers_under(lines)]


def need_parties(house, one, sign, other):
    """The parties of a meeting; refuses what is wrong in the order of the arguments."""
    lines = need_house(house)
    first = need_party(lines, one)
    need_sign(house[1], sign)
    return first, need_party(lines, other)


def are_same_kind(one, other):
    return one[0] is not None and one[0] == other[0]


def back_page(mirrors, sign):
    """The sign and the side by which the back asking is made."""
    if mirrors[sign] == SIDED:
        return sign, SECOND
    return mirrors[sign], FIRST


def page_of(mirrors, who, sign):
    """The sign and the side by which one of the askings is made."""
    if who == BACK:
        return back_page(mirrors, sign)
    return sign, (PLACE if who == IN_PLACE else FIRST)


def goes_back_first(house, one, sign, other):
    """What back_first tells, of parties."""
    if one[0] is None or are_same_kind(one, other) or one[0] not in other[1]:
        return False
    back_sign, side = back_page(house[1], sign)
    writer = first_written(house[2], other[1], back_sign, side)
    return writer is not None and writer not in one[1]


def order_of_askings(house, one, sign, other):
    if are_same_kind(one, other):
        return (FORE,)
    return (BACK, FORE) if goes_back_first(house, one, sign, other) else (FORE, BACK)


def answer_of(house, who, one, sign, other):
    """The tuple (who, steps, made) of one of the askings between parties."""
    first, second = (other, one) if who == BACK else (one, other)
    asked_sign, side = page_of(house[1], who, sign)
    steps, made = answer(house[2], first[1], asked_sign, side, second[1])
    return who, steps, made


def answers_up_to_made(house, order, one, sign, other):
    """The list of the askings between parties, in this order, up to the first that makes a kind."""
    answers = []
    for who in order:
        answers.append(answer_of(house, who, one, sign, other))
        if answers[-1][2] != GIVES_UP:
            return answers
    return answers


def last_made(answers):
    """The kind that was made at last; None where none was."""
    made = answers[-1][2]
    return None if made == GIVES_UP else made


def meeting_of(house, one, sign, other):
    """What asked tells, of parties."""
    order = order_of_askings(house, one, sign, other)
    return answers_up_to_made(house, order, one, sign, other)


def meeting_in_place(house, one, sign, other):
    """What in_place tells, of parties."""
    order = order_of_askings(house, one, sign, other)
    return answers_up_to_made(house, (IN_PLACE, *order), one, sign, other)


def made_by(house, one, sign, other):
    """What meets tells, of parties."""
    return last_made(meeting_of(house, one, sign, other))


def made_in_place(house, one, sign, other):
    """What placed tells, of parties."""
    return last_made(meeting_in_place(house, one, sign, other))


def made_by_itself(house, one, sign):
    """What itself tells, of a party."""
    return last_made([answer_of(house, FORE, one, sign, one)])


def made_by_kinds(house, lines, one, sign, other):
    """What meets tells, of kinds of the house with these lines."""
    return made_by(house, (one, lines[one]), sign, (other, lines[other]))


def back_first(house, one, sign, other):
    first, second = need_parties(house, one, sign, other)
    return goes_back_first(house, first, sign, second)


def asked(house, one, sign, other):
    first, second = need_parties(house, one, sign, other)
    return meeting_of(house, first, sign, second)


def meets(house, one, sign, other):
    first, second = need_parties(house, one, sign, other)
    return made_by(house, first, sign, second)


def itself(house, one, sign):
    party = need_party(need_house(house), one)
    need_sign(house[1], sign)
    return made_by_itself(house, party, sign)


def in_place(house, one, sign, other):
    first, second = need_parties(house, one, sign, other)
    return meeting_in_place(house, first, sign, second)


def placed(house, one, sign, other):
    first, second = need_parties(house, one, sign, other)
    return made_in_place(house, first, sign, second)


def is_crossed(house, one, sign, other):
    """Whether the meeting of two parties makes something else than that of the other one with the one."""
    return made_by(house, one, sign, other) != made_by(house, other, house[1][sign], one)


def crossed(house, sign):
    parties = list(enumerate(need_house(house)))
    need_sign(house[1], sign)
    if house[1][sign] == SIDED:
        raise NoSign("a sided sign has no mirror")
    pairs = [(one, other) for one in parties for other in parties if one[0] != other[0]]
    return [(one[0], other[0]) for one, other in pairs if is_crossed(house, one, sign, other)]

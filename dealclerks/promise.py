"""The promise that any two callers, those to come too, have an answer and but one."""

from dealclerks.books import GIVES_UP, copied, need_house, need_sign
from dealclerks.errors import NoElders, TooMany
from dealclerks.kinds import MOST_KINDS, is_whole
from dealclerks.lines import told_line
from dealclerks.meeting import (
    BACK, FORE, all_parties, answer_of, are_same_kind, made_by, made_by_itself, need_parties)


def both_made(house, one, sign, other):
    """What both tells, of parties."""
    fore = answer_of(house, FORE, one, sign, other)[2]
    if are_same_kind(one, other):
        return fore, GIVES_UP
    return fore, answer_of(house, BACK, one, sign, other)[2]


def is_clear(made):
    """Whether a meeting of unlike callers is clear whose two askings made this."""
    fore, back = made
    if fore == back:
        return fore != GIVES_UP
    return GIVES_UP in made


def both(house, one, sign, other):
    first, second = need_parties(house, one, sign, other)
    return both_made(house, first, sign, second)


def odd_meetings(house, sign, caller, party, everyone):
    """The list of a caller's meetings with everyone that aren't clear, that with itself ahead."""
    odd = [(caller,)] if made_by_itself(house, party, sign) is None else []
    for other, second in everyone:
        if not are_same_kind(party, second) and not is_clear(both_made(house, party, sign, second)):
            odd.append((caller, other))
    return odd


def need_everyone(house, sign):
    """All callers with their parties; refuses what is wrong in the order of the arguments."""
    lines = need_house(house)
    need_sign(house[1], sign)
    return all_parties(lines)


def first_odd_among(house, sign, everyone):
    for caller, party in everyone:
        odd = odd_meetings(house, sign, caller, party, everyone)
        if odd:
            return odd[0]
    return None


def first_odd(house, sign):
    return first_odd_among(house, sign, need_everyone(house, sign))


def odd_many(house, sign):
    everyone = need_everyone(house, sign)
    return sum(len(odd_meetings(house, sign, caller, party, everyone)) for caller, party in everyone)


def table(house, sign):
    everyone = need_everyone(house, sign)
    if first_odd_among(house, sign, everyone) is not None:
        return None
    # As parties of rows of elders: two of these are unlike callers, be their told lines alike.
    parties = [(None, told) for told in sorted({party[1] for caller, party in everyone})]
    return [(one[1], tuple(made_by(house, one, sign, other) for other in parties)) for one in parties]


def table_holds(house, sign, thing):
    paper = table(house, sign)
    if paper is None or thing != paper:
        return False
    # A truth is alike a whole number to Python, but is none.
    return all(is_whole(part) for row in thing for half in row for part in half)


def grown(house, elders):
    lines = need_house(house)
    if not isinstance(elders, tuple) or told_line(lines, elders) is None:
        raise NoElders("this is no row of elders")
    if len(lines) == MOST_KINDS:
        raise TooMany(MOST_KINDS + 1, MOST_KINDS)
    family, mirrors, books = house
    return (*family, elders), mirrors, copied(books)

"""Houses that are alike: what tells them apart, and what can be left out of one."""

from dealclerks.books import GIVES_UP, WHOEVER, copied, need_house
from dealclerks.errors import TooMany, Unlike
from dealclerks.kinds import MOST_KINDS
from dealclerks.meeting import (
    IN_PLACE, all_parties, answer_of, made_by, made_by_itself, made_in_place, meeting_of, page_of)

MOST_KINDS_TO_PRUNE = 3


def need_alike(one, other):
    """The lines of two houses of the same family and mirrors; refuses others."""
    lines = need_house(one)
    need_house(other)
    if one[:2] != other[:2]:
        raise Unlike("these houses have unlike families or mirrors")
    return lines


def signs_written_otherwise(one, other):
    """The rising list of the signs by which, or by whose mirror, the books of two houses differ.

    By any other sign all askings are the same in both.
    """
    mirrors = one[1]
    pages = list(one[2]) + list(other[2])
    written = [page[1] for page in pages if one[2].get(page) != other[2].get(page)]
    return [sign for sign in range(len(mirrors)) if sign in written or mirrors[sign] in written]


def is_tale(one, other, first, sign, second):
    """Whether two parties meeting, or the sign done in place with them, make something else in the other house."""
    if made_by(one, first, sign, second) != made_by(other, first, sign, second):
        return True
    return made_in_place(one, first, sign, second) != made_in_place(other, first, sign, second)


def tale_between(one, other, lines):
    """What tell_tale tells, of houses of the family with these lines."""
    parties = list(enumerate(lines))
    signs = signs_written_otherwise(one, other)
    triples = [(first, sign, second) for first in parties for sign in signs for second in parties]
    for first, sign, second in triples:
        if is_tale(one, other, first, sign, second):
            return first[0], sign, second[0]
    return None


def tale_of_caller(one, other, caller, party, sign, everyone):
    """The first tale to come by this caller and sign."""
    if made_by_itself(one, party, sign) != made_by_itself(other, party, sign):
        return caller, sign
    for second, second_party in everyone:
        # Of a kind and itself there is no other meeting than that above, so none is found here.
        if made_by(one, party, sign, second_party) != made_by(other, party, sign, second_party):
            return caller, sign, second
    return None


def tale_to_come_between(one, other, lines):
    """What tale_to_come tells, of houses of the family with these lines."""
    everyone = all_parties(lines)
    signs = signs_written_otherwise(one, other)
    for caller, party in everyone:
        for sign in signs:
            tale = tale_of_caller(one, other, caller, party, sign, everyone)
            if tale is not None:
                return tale
    return None


def tell_tale(one, other):
    return tale_between(one, other, need_alike(one, other))


def tale_to_come(one, other):
    return tale_to_come_between(one, other, need_alike(one, other))


def askings_made(house, one, sign, other):
    """The list of all askings that parties make by a sign, done in place or not."""
    return [answer_of(house, IN_PLACE, one, sign, other)] + meeting_of(house, one, sign, other)


def cases_come_to(house, lines):
    """A dict that has as its keys the (kind, sign, side, case) of the cases that are come to.

    A caller's meeting with itself makes the fore asking alone, which two of its told line make, too.
    """
    parties = [party for caller, party in all_parties(lines)]
    signs = list(range(len(house[1])))
    triples = [(one, sign, other) for one in parties for sign in signs for other in parties]
    come_to = {}
    for one, sign, other in triples:
        for who, steps, made in askings_made(house, one, sign, other):
            asked_sign, side = page_of(house[1], who, sign)
            for kind, case in steps:
                come_to[kind, asked_sign, side, case] = True
    return come_to


def idle_cases(house):
    come_to = cases_come_to(house, need_house(house))
    cases = [(*page, case) for page, writing in house[2].items() for case in range(len(writing))]
    return sorted(case for case in cases if case not in come_to)


def lean_writing(page, writing, idle):
    """The writing without its idle cases."""
    left = tuple(case for number, case in enumerate(writing) if (*page, number) not in idle)
    return left if left else ((WHOEVER, GIVES_UP),)


def lean(house):
    idle = idle_cases(house)
    family, mirrors, books = house
    return family, mirrors, {page: lean_writing(page, writing, idle) for page, writing in books.items()}


def shifted(number, by):
    """A kind told by a number greater by so many; what stands for no kind stays."""
    return number + by if number >= 0 else number


def shifted_writing(writing, by):
    return tuple((shifted(other, by), shifted(what, by)) for other, what in writing)


def beside(one, other):
    by = len(need_house(one))
    many = by + len(need_house(other))
    if one[1] != other[1]:
        raise Unlike("these houses have unlike mirrors")
    if many > MOST_KINDS:
        raise TooMany(many, MOST_KINDS)
    elders = tuple(tuple(elder + by for elder in row) for row in other[0])
    books = copied(one[2])
    for (kind, sign, side), writing in other[2].items():
        books[kind + by, sign, side] = shifted_writing(writing, by)
    return one[0] + elders, one[1], books


def without(house, page):
    """The house without the writing by this page."""
    family, mirrors, books = house
    return family, mirrors, {key: books[key] for key in books if key != page}


def is_spare(house, lines, page):
    """Whether the house without this writing has no tale against it, and none to come."""
    left = without(house, page)
    if tale_between(house, left, lines) is not None:
        return False
    return tale_to_come_between(house, left, lines) is None


def greatest_spare(house, lines):
    """The greatest page whose writing can be left out; None where there is none."""
    for page in sorted(house[2], reverse=True):
        if is_spare(house, lines, page):
            return page
    return None


def pruned(house):
    lines = need_house(house)
    if len(lines) > MOST_KINDS_TO_PRUNE:
        raise TooMany(len(lines), MOST_KINDS_TO_PRUNE)
    left = (house[0], house[1], copied(house[2]))
    # What is left has no tale against the one handed in; so against it a shorter one has just the tales it has there.
    page = greatest_spare(left, lines)
    while page is not None:
        left = without(left, page)
        page = greatest_spare(left, lines)
    return left

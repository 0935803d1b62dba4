"""Clerks: a house whose kinds and books come, change and go, and what was told of it and is kept."""

from dealclerks.books import copied, is_writing, need_house, need_side, need_sign
from dealclerks.errors import Missing, NoDeed, NoElders, NoLine, NoWriting, TooMany
from dealclerks.kinds import MOST_KINDS, are_unlike_kinds, lines_up_to_snag
from dealclerks.lines import need_kind
from dealclerks.meeting import made_by_kinds, meeting_of


def all_askings(house):
    """What asked tells of each two kinds, by (one, sign, other), these rising."""
    parties = list(enumerate(lines_up_to_snag(house[0])))
    signs = list(range(len(house[1])))
    triples = [(one, sign, other) for one in parties for sign in signs for other in parties]
    return {(one[0], sign, other[0]): meeting_of(house, one, sign, other) for one, sign, other in triples}


class Clerks:
    def __init__(self, house):
        need_house(house)
        self.family = house[0]
        self.mirrors = house[1]
        self.books = copied(house[2])
        # By (one, sign, other) what meet told of it.
        self.told = {}
        self.newly_told = 0
        # Of each deed that stands the page with what stood there ahead of it, perhaps None; of a kind (None, None).
        self.deeds = []

    def house(self):
        return self.family, self.mirrors, copied(self.books)

    def own_house(self):
        """The house itself, not to be handed out."""
        return self.family, self.mirrors, self.books

    def need_page(self, kind, sign, side):
        need_kind(len(self.family), kind)
        need_sign(self.mirrors, sign)
        need_side(self.mirrors, sign, side)

    def kind(self, elders):
        number = len(self.family)
        if not are_unlike_kinds(elders, number):
            raise NoElders("these are no elders")
        if number == MOST_KINDS:
            raise TooMany(number + 1, MOST_KINDS)
        family = (*self.family, elders)
        if len(lines_up_to_snag(family)) == number:
            raise NoLine(number)
        self.family = family
        self.deeds.append((None, None))
        return number

    def write(self, kind, sign, side, writing):
        self.need_page(kind, sign, side)
        if not is_writing(writing, len(self.family)):
            raise NoWriting("this is no writing of the house")
        ahead = all_askings(self.own_house())
        page = (kind, sign, side)
        self.deeds.append((page, self.books.get(page)))
        self.books[page] = writing
        return self.spoil(ahead)

    def strike(self, kind, sign, side):
        self.need_page(kind, sign, side)
        page = (kind, sign, side)
        if page not in self.books:
            raise Missing("no writing stands there")
        ahead = all_askings(self.own_house())
        self.deeds.append((page, self.books.pop(page)))
        return self.spoil(ahead)

    def back(self):
        if not self.deeds:
            raise NoDeed("no deed stands")
        ahead = all_askings(self.own_house())
        page, writing = self.deeds.pop()
        if page is None:
            self.family = self.family[:-1]
        elif writing is None:
            del self.books[page]
        else:
            self.books[page] = writing
        return self.spoil(ahead)

    def spoil(self, ahead):
        """Keeps no more what is asked otherwise than ahead, or has gone; the list of what is spoiled."""
        behind = all_askings(self.own_house())
        self.told = {meeting: self.told[meeting] for meeting in self.told if behind.get(meeting) == ahead[meeting]}
        return [meeting for meeting in behind if behind[meeting] != ahead[meeting]]

    def meet(self, one, sign, other):
        need_kind(len(self.family), one)
        need_sign(self.mirrors, sign)
        need_kind(len(self.family), other)
        meeting = (one, sign, other)
        if meeting not in self.told:
            lines = lines_up_to_snag(self.family)
            self.told[meeting] = made_by_kinds(self.own_house(), lines, one, sign, other)
            self.newly_told += 1
        return self.told[meeting]

    def kept(self):
        return sorted(self.told)

    def reckoned(self):
        return self.newly_told

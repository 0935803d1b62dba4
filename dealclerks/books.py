"""Signs with their mirrors, the clerks' books, and houses."""

from dealclerks.errors import NoHouse, NoSide, NoSign
from dealclerks.kinds import is_between, is_family, is_kind_below, lines_up_to_snag
from dealclerks.lines import need_caller, need_kind

MOST_SIGNS = 4
MOST_CASES = 6
# In the place of a sign's mirror.
SIDED = -1
# In the place of a case's other.
WHOEVER = -1
# In the place of a case's what.
GIVES_UP = -1
HANDS_ON = -2
# In the place of a case's number.
NO_CASE = -1
FIRST = "first"
SECOND = "second"
PLACE = "place"


def is_mirrors(thing):
    if not isinstance(thing, tuple) or not 1 <= len(thing) <= MOST_SIGNS:
        return False
    if not all(is_between(mirror, SIDED, len(thing) - 1) for mirror in thing):
        return False
    return all(mirror == SIDED or thing[mirror] == sign for sign, mirror in enumerate(thing))


def is_case(thing, many):
    """Whether thing is a case of a writing, of a family of so many kinds."""
    if not isinstance(thing, tuple) or len(thing) != 2:
        return False
    other, what = thing
    return is_between(other, WHOEVER, many - 1) and is_between(what, HANDS_ON, many - 1)


def is_writing(thing, many):
    """Whether thing is a writing of a family of so many kinds."""
    if not isinstance(thing, tuple) or not 1 <= len(thing) <= MOST_CASES:
        return False
    return all(is_case(case, many) for case in thing)


def is_sign(thing, mirrors):
    return is_between(thing, 0, len(mirrors) - 1)


def is_side(thing, mirrors, sign):
    """Whether thing is a side that this sign has."""
    if thing == SECOND:
        return mirrors[sign] == SIDED
    return thing == FIRST or thing == PLACE


def is_page(thing, many, mirrors):
    """Whether a writing may stand by thing in the books, of so many kinds and these mirrors."""
    if not isinstance(thing, tuple) or len(thing) != 3:
        return False
    kind, sign, side = thing
    return is_kind_below(kind, many) and is_sign(sign, mirrors) and is_side(side, mirrors, sign)


def are_books(thing, many, mirrors):
    if not isinstance(thing, dict):
        return False
    return all(is_page(page, many, mirrors) and is_writing(writing, many) for page, writing in thing.items())


def lines_of_house(thing):
    """The list of the lines of a house's kinds; None where thing is no house."""
    if not isinstance(thing, tuple) or len(thing) != 3:
        return None
    family, mirrors, books = thing
    if not is_family(family) or not is_mirrors(mirrors):
        return None
    lines = lines_up_to_snag(family)
    if len(lines) < len(family) or not are_books(books, len(family), mirrors):
        return None
    return lines


def is_house(thing):
    return lines_of_house(thing) is not None


def need_house(thing):
    """The list of the lines of a house's kinds; refuses what is no house."""
    lines = lines_of_house(thing)
    if lines is None:
        raise NoHouse("this is no house")
    return lines


def copied(books):
    """A new dict of the same writings, which are tuples throughout."""
    return {page: books[page] for page in books}


def need_sign(mirrors, thing):
    if not is_sign(thing, mirrors):
        raise NoSign("this is no sign of the house")


def need_side(mirrors, sign, thing):
    if not is_side(thing, mirrors, sign):
        raise NoSide("this is no side that the sign has")


def first_taking(writing, told):
    """The number of the first case that takes a caller with this told line."""
    for number, case in enumerate(writing):
        if case[0] == WHOEVER or case[0] in told:
            return number
    return NO_CASE


def first_written(books, told, sign, side):
    """The first kind of a told line in whose book a writing stands by this sign and side."""
    for kind in told:
        if (kind, sign, side) in books:
            return kind
    return None


def found(house, caller, sign, side):
    lines = need_house(house)
    told = need_caller(lines, caller)
    need_sign(house[1], sign)
    need_side(house[1], sign, side)
    return first_written(house[2], told, sign, side)


def takes(house, kind, sign, side, caller):
    lines = need_house(house)
    need_kind(len(lines), kind)
    need_sign(house[1], sign)
    need_side(house[1], sign, side)
    told = need_caller(lines, caller)
    writing = house[2].get((kind, sign, side))
    return None if writing is None else first_taking(writing, told)

"""Houses written as texts, and read."""

from dealclerks.books import (
    GIVES_UP, HANDS_ON, MOST_SIGNS, SIDED, WHOEVER, is_mirrors, is_page, is_writing, need_house)
from dealclerks.errors import NoText
from dealclerks.kinds import is_family, lines_up_to_snag

BETWEEN = "; "
MOST_MARKS = 5000
FIGURES = "0123456789"
KIND_WORD = "kind"
SIDED_WORD = "sided"
MIRROR_WORD = "mirror"
WHOEVER_WORD = "*"
HANDS_ON_WORD = "on"
GIVES_UP_WORD = "up"


def kind_text(elders):
    return " ".join([KIND_WORD] + [str(elder) for elder in elders])


def sign_text(mirror):
    return SIDED_WORD if mirror == SIDED else f"{MIRROR_WORD} {mirror}"


def other_text(other):
    return WHOEVER_WORD if other == WHOEVER else str(other)


def what_text(what):
    if what == HANDS_ON:
        return HANDS_ON_WORD
    return GIVES_UP_WORD if what == GIVES_UP else str(what)


def writing_text(page, writing):
    kind, sign, side = page
    cases = [f" {other_text(other)}>{what_text(what)}" for other, what in writing]
    return f"{kind} {sign} {side}:" + "".join(cases)


def house_text(house):
    need_house(house)
    family, mirrors, books = house
    parts = [kind_text(elders) for elders in family] + [sign_text(mirror) for mirror in mirrors]
    parts.extend([writing_text(page, books[page]) for page in sorted(books)])
    return BETWEEN.join(parts)


def figure_read(word):
    """The number that one figure writes; None where the word is none."""
    return FIGURES.index(word) if len(word) == 1 and word in FIGURES else None


def elders_read(part):
    """What stands for elders in the part of a kind; None where the part is none."""
    words = part.split(" ")
    return tuple(figure_read(word) for word in words[1:]) if words[0] == KIND_WORD else None


def mirror_read(part):
    """What stands for a mirror in the part of a sign; None where the part is none."""
    if part == SIDED_WORD:
        return SIDED
    words = part.split(" ")
    return figure_read(words[1]) if len(words) == 2 and words[0] == MIRROR_WORD else None


def other_read(word):
    return WHOEVER if word == WHOEVER_WORD else figure_read(word)


def what_read(word):
    if word == HANDS_ON_WORD:
        return HANDS_ON
    return GIVES_UP if word == GIVES_UP_WORD else figure_read(word)


def case_read(word):
    other, mark, what = word.partition(">")
    return other_read(other), what_read(what)


def page_read(text):
    """What stands for a page ahead of a writing; None where there aren't three words."""
    words = text.split(" ")
    if len(words) != 3:
        return None
    return figure_read(words[0]), figure_read(words[1]), words[2]


def writing_read(part, many, mirrors):
    """The tuple (page, writing) that a part writes, of so many kinds and these mirrors; None where it is none."""
    head, mark, cases = part.partition(": ")
    page = page_read(head)
    writing = tuple(case_read(word) for word in cases.split(" "))
    if not is_page(page, many, mirrors) or not is_writing(writing, many):
        return None
    return page, writing


def begins_family(family):
    return is_family(family) and len(lines_up_to_snag(family)) == len(family)


def is_mirror_so_far(mirrors, sign):
    """Whether the mirror of this sign can be right, be it of a sign that isn't among the mirrors yet."""
    mirror = mirrors[sign]
    if mirror == SIDED:
        return True
    if mirror < len(mirrors):
        return mirrors[mirror] == sign
    return mirror < MOST_SIGNS and mirrors.count(mirror) == 1


def begins_mirrors(mirrors):
    """Whether there are mirrors that begin as these do."""
    return len(mirrors) <= MOST_SIGNS and all(is_mirror_so_far(mirrors, sign) for sign in range(len(mirrors)))


def with_kind(house, elders):
    """The beginning of a house with a kind under these more; None where no house begins so."""
    family, mirrors, books = house
    longer = (*family, elders)
    return (longer, mirrors, books) if mirrors == () and begins_family(longer) else None


def with_sign(house, mirror):
    """The beginning of a house with a sign of this mirror more; None where no house begins so."""
    family, mirrors, books = house
    longer = (*mirrors, mirror)
    return (family, longer, books) if family and not books and begins_mirrors(longer) else None


def with_writing(house, part):
    """The beginning of a house with the writing that a part writes more; None where no house begins so."""
    family, mirrors, books = house
    if not is_mirrors(mirrors):
        return None
    read = writing_read(part, len(family), mirrors)
    if read is None or any(page >= read[0] for page in books):
        return None
    return family, mirrors, {**books, read[0]: read[1]}


def with_part(house, part):
    """The beginning of a house with this part; None where no house begins so."""
    elders = elders_read(part)
    if elders is not None:
        return with_kind(house, elders)
    mirror = mirror_read(part)
    if mirror is not None:
        return with_sign(house, mirror)
    return with_writing(house, part)


def house_read(text):
    if not isinstance(text, str) or len(text) > MOST_MARKS:
        raise NoText(-1)
    parts = text.split(BETWEEN)
    house = ((), (), {})
    for at, part in enumerate(parts):
        house = with_part(house, part)
        if house is None:
            raise NoText(at)
    if not is_mirrors(house[1]):
        raise NoText(len(parts))
    return house

"""Rows of wares with one sign between each two, and what their groupings are worth."""

from dealclerks.books import need_house, need_sign
from dealclerks.errors import NoRow
from dealclerks.kinds import is_kind_below
from dealclerks.lines import need_kind
from dealclerks.meeting import made_by_kinds

MOST_IN_ROW = 12
# In the place of a worth, where some meeting is answered by nobody.
UNANSWERED = -1


def is_row(thing, many):
    """Whether thing is a row of wares of a house of so many kinds."""
    if not isinstance(thing, tuple) or not 1 <= len(thing) <= MOST_IN_ROW:
        return False
    return all(is_kind_below(part, many) for part in thing)


def need_row(many, thing):
    if not is_row(thing, many):
        raise NoRow("this is no row of wares")


def made_or_unanswered(house, lines, one, sign, other):
    """What two worths make, perhaps UNANSWERED ones."""
    if one == UNANSWERED or other == UNANSWERED:
        return UNANSWERED
    made = made_by_kinds(house, lines, one, sign, other)
    return UNANSWERED if made is None else made


def all_made(house, lines, sign):
    """The dict of what each two worths make by a sign, UNANSWERED ones too."""
    worths = [UNANSWERED] + list(range(len(lines)))
    pairs = [(one, other) for one in worths for other in worths]
    return {(one, other): made_or_unanswered(house, lines, one, sign, other) for one, other in pairs}


def longer_spans(many):
    """The spans (start, end) of two wares and more in a row of so many, shorter ones ahead."""
    return [(start, start + length) for length in range(2, many + 1) for start in range(many - length + 1)]


def add_ways(made, left, right, counts):
    """Adds the groupings whose two parts are counted in left and in right."""
    for one, ones in left.items():
        for other, others in right.items():
            got = made[one, other]
            counts[got] = counts.get(got, 0) + ones * others


def ways_of_spans(made, row):
    """By each span of the row, the dict of how many of its groupings are worth what."""
    spans = {(at, at + 1): {kind: 1} for at, kind in enumerate(row)}
    for start, end in longer_spans(len(row)):
        counts = {}
        for middle in range(start + 1, end):
            add_ways(made, spans[start, middle], spans[middle, end], counts)
        spans[start, end] = counts
    return spans


def ways(house, sign, row):
    lines = need_house(house)
    need_sign(house[1], sign)
    need_row(len(lines), row)
    return ways_of_spans(all_made(house, lines, sign), row)[0, len(row)]


def some_split(made, spans, span, kind):
    """Some tuple (middle, one, other): parted there, worths one and other of the two parts make the kind."""
    start, end = span
    for middle in range(start + 1, end):
        for one in spans[start, middle]:
            for other in spans[middle, end]:
                if made[one, other] == kind:
                    return middle, one, other
    return None


def some_grouping(made, spans, span, sign, kind):
    """Some grouping of a span that is worth a kind that its ways tell."""
    start, end = span
    if end - start == 1:
        return kind
    middle, one, other = some_split(made, spans, span, kind)
    left = some_grouping(made, spans, (start, middle), sign, one)
    return left, sign, some_grouping(made, spans, (middle, end), sign, other)


def grouping_for(house, sign, row, kind):
    lines = need_house(house)
    need_sign(house[1], sign)
    need_row(len(lines), row)
    need_kind(len(lines), kind)
    made = all_made(house, lines, sign)
    spans = ways_of_spans(made, row)
    span = (0, len(row))
    return some_grouping(made, spans, span, sign, kind) if kind in spans[span] else None


def first_unlike(house, sign):
    lines = need_house(house)
    need_sign(house[1], sign)
    made = all_made(house, lines, sign)
    kinds = list(range(len(lines)))
    threes = [(one, other, third) for one in kinds for other in kinds for third in kinds]
    for one, other, third in threes:
        if made[made[one, other], third] != made[one, made[other, third]]:
            return one, other, third
    return None

"""The lines of the kinds of a lined family, and of the kinds to come."""

from dealclerks.errors import NoCaller, NoKind
from dealclerks.kinds import are_unlike_kinds, is_kind_below, lines_of_lined, merge, rows_under

MOST_ELDERS = 3


def need_kind(many, thing):
    """Refuses what is none of the kinds of a family of so many."""
    if not is_kind_below(thing, many):
        raise NoKind("this is no kind of the family")


def line(family, kind):
    lines = lines_of_lined(family)
    need_kind(len(lines), kind)
    return lines[kind]


def comes_of(family, kind, other):
    lines = lines_of_lined(family)
    need_kind(len(lines), kind)
    need_kind(len(lines), other)
    return other in lines[kind]


def told_line(lines, thing):
    """The told line of a caller of the family with these lines; None where thing is none."""
    if is_kind_below(thing, len(lines)):
        return lines[thing]
    if not are_unlike_kinds(thing, len(lines)):
        return None
    if not 1 <= len(thing) <= MOST_ELDERS:
        return None
    merged, left = merge(rows_under(lines, thing))
    return None if left else merged


def need_caller(lines, thing):
    """The told line of a caller of the family with these lines; refuses what is none."""
    told = told_line(lines, thing)
    if told is None:
        raise NoCaller("this is no caller of the family")
    return told


def line_of(family, caller):
    return need_caller(lines_of_lined(family), caller)


def is_caller(family, thing):
    return told_line(lines_of_lined(family), thing) is not None


def unlike_rows(many):
    """All rows of one to three unlike kinds below many, shorter ones ahead, of one length as they rise."""
    rows = []
    longest = [()]
    for length in range(MOST_ELDERS):
        longest = [(*row, kind) for row in longest for kind in range(many) if kind not in row]
        rows.extend(longest)
    return rows


def callers_under(lines):
    """All callers of the family with these lines, in the callers' order."""
    rows = [row for row in unlike_rows(len(lines)) if told_line(lines, row) is not None]
    return list(range(len(lines))) + rows


def callers(family):
    return callers_under(lines_of_lined(family))

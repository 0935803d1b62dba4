"""Families of kinds, the merging of rows, and papers that a family isn't lined."""

from dealclerks.errors import NoFamily, NoLine

MOST_KINDS = 6


def is_whole(thing):
    # To Python a truth is an int as well; it is no whole number.
    return isinstance(thing, int) and not isinstance(thing, bool)


def is_between(thing, least, greatest):
    """Whether thing is a whole number from least to greatest."""
    return is_whole(thing) and least <= thing <= greatest


def is_kind_below(thing, many):
    return is_between(thing, 0, many - 1)


def are_unlike_kinds(thing, many):
    """Whether thing is a tuple, perhaps (), of unlike kinds below many."""
    if not isinstance(thing, tuple):
        return False
    if not all(is_kind_below(part, many) for part in thing):
        return False
    return len(set(thing)) == len(thing)


def is_family(thing):
    if not isinstance(thing, tuple):
        return False
    if not 1 <= len(thing) <= MOST_KINDS:
        return False
    return all(are_unlike_kinds(elders, kind) for kind, elders in enumerate(thing))


def need_family(thing):
    if not is_family(thing):
        raise NoFamily("this is no family")


def next_kind(rows):
    """The kind that is the next one where rows, none of them empty, are merged; None where there is none."""
    for row in rows:
        if not any(row[0] in other[1:] for other in rows):
            return row[0]
    return None


def strike_out(rows, kind):
    """The rows without the kind, and without those that are empty then."""
    shorter = [tuple(other for other in row if other != kind) for row in rows]
    return [row for row in shorter if row]


def merge(rows):
    """The tuple of the next kinds, and the list of what is left of the rows where there is none any more.

    The list is empty just where the merging comes to its end.
    """
    merged = []
    left = [row for row in rows if row]
    kind = next_kind(left)
    while kind is not None:
        merged.append(kind)
        left = strike_out(left, kind)
        kind = next_kind(left)
    return tuple(merged), left


def rows_under(lines, elders):
    """The rows that are merged for a kind with these elders."""
    return [lines[elder] for elder in elders] + [elders]


def lines_up_to_snag(family):
    """The list of the lines of all kinds ahead of the least that has none; of all where each has one."""
    lines = []
    for kind, elders in enumerate(family):
        merged, left = merge(rows_under(lines, elders))
        if left:
            return lines
        lines.append((kind, *merged))
    return lines


def lines_of_lined(family):
    """The list of the lines of all kinds; refuses what is no lined family."""
    need_family(family)
    lines = lines_up_to_snag(family)
    if len(lines) < len(family):
        raise NoLine(len(lines))
    return lines


def first_ahead(rows, kind):
    """The first kind of some row in which the given one stands, but not as the first."""
    heads = [row[0] for row in rows if kind in row[1:]]
    return heads[0]


def ring_among(rows):
    """Some round of kinds within rows, none of them empty, that can't be merged on."""
    walked = []
    kind = rows[0][0]
    while kind not in walked:
        walked.append(kind)
        kind = first_ahead(rows, kind)
    ring = walked[walked.index(kind):]
    # The walk went from each kind to one that stands ahead of it.
    return tuple(ring[::-1])


def stands_ahead(rows, kind, other):
    """Whether the kind stands ahead of the other one in some of the rows."""
    return any(kind in row and other in row[row.index(kind) + 1:] for row in rows)


def is_ring(thing, many, rows):
    """Whether thing is a round of kinds below many within the rows."""
    if not are_unlike_kinds(thing, many) or len(thing) < 2:
        return False
    followers = thing[1:] + thing[:1]
    return all(stands_ahead(rows, kind, other) for kind, other in zip(thing, followers))


def snag_holds(family, thing):
    need_family(family)
    lines = lines_up_to_snag(family)
    if len(lines) == len(family):
        return False
    if not isinstance(thing, tuple) or len(thing) != 2:
        return False
    kind, ring = thing
    if not is_whole(kind) or kind != len(lines):
        return False
    return is_ring(ring, len(family), rows_under(lines, family[kind]))


def snag(family):
    need_family(family)
    lines = lines_up_to_snag(family)
    kind = len(lines)
    if kind == len(family):
        return None
    left = merge(rows_under(lines, family[kind]))[1]
    return kind, ring_among(left)

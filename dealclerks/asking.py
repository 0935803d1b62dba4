"""One asking: a caller's clerk is asked of another caller."""

from dealclerks.books import GIVES_UP, HANDS_ON, NO_CASE, first_taking, need_house, need_side, need_sign
from dealclerks.lines import need_caller


def what_counts(writing, case):
    """What the case of this number tells; where none takes, the clerk gives up."""
    return GIVES_UP if case == NO_CASE else writing[case][1]


def answer(books, told, sign, side, other):
    """What ask tells, of the told lines of a caller and of the other one."""
    steps = []
    for kind in told:
        writing = books.get((kind, sign, side))
        if writing is not None:
            case = first_taking(writing, other)
            steps.append((kind, case))
            what = what_counts(writing, case)
            if what != HANDS_ON:
                return tuple(steps), what
    return tuple(steps), GIVES_UP


def ask(house, caller, sign, side, other):
    lines = need_house(house)
    told = need_caller(lines, caller)
    need_sign(house[1], sign)
    need_side(house[1], sign, side)
    return answer(house[2], told, sign, side, need_caller(lines, other))

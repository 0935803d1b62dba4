"""A desk that is told lines, deeds and questions, and answers each."""

from dealclerks.books import FIRST, PLACE, SECOND
from dealclerks.clerks import Clerks
from dealclerks.errors import BadLine, Empty, Nobody, NoRanks, NoText
from dealclerks.meeting import FORE, asked, placed
from dealclerks.promise import first_odd
from dealclerks.texts import figure_read, house_read, house_text, writing_read
from dealclerks.trees import LEFT, LETTERS, RIGHT, SIGNS, is_ranks, tree_read
from dealclerks.worths import doings, worth

HOUSE_AT_FIRST = "kind; sided"
DONE = "ok"
# What is due in the place of a word, a letter for each in a line's shape.
A_FIGURE = "f"
A_SIDE = "s"
A_RANK = "r"
A_TEXT = "t"


def do_house(desk, text):
    desk.begin(house_read(text))
    return DONE


def do_kind(desk, *elders):
    return str(desk.clerks.kind(elders))


def do_write(desk, text):
    family, mirrors, books = desk.clerks.house()
    read = writing_read(text, len(family), mirrors)
    if read is None:
        raise NoText(0)
    (kind, sign, side), writing = read
    return str(len(desk.clerks.write(kind, sign, side, writing)))


def do_strike(desk, kind, sign, side):
    return str(len(desk.clerks.strike(kind, sign, side)))


def do_back(desk):
    spoiled = desk.clerks.back()
    many = len(desk.clerks.house()[0])
    desk.places = {place: kind for place, kind in desk.places.items() if kind < many}
    return str(len(spoiled))


def do_ranks(desk, *ranks):
    if not is_ranks(ranks) or len(ranks) != len(desk.clerks.house()[1]):
        raise NoRanks("these are no ranks of the house's signs")
    desk.ranks = ranks
    return DONE


def do_put(desk, place, text):
    tree = tree_read(desk.ranks, text)
    house = desk.clerks.house()
    # All of them are known to be answered ahead of the first that is kept.
    for one, sign, other, made in doings(house, tree):
        desk.clerks.meet(one, sign, other)
    desk.places[place] = worth(house, tree)
    return held_letter(desk, place)


def do_done(desk, place, sign, other):
    one = need_held(desk, place)
    made = placed(desk.clerks.house(), one, sign, need_held(desk, other))
    if made is None:
        raise Nobody(0)
    desk.places[place] = made
    return held_letter(desk, place)


def need_held(desk, place):
    """The kind of the ware at a place; refuses an empty one."""
    if place not in desk.places:
        raise Empty(place)
    return desk.places[place]


def held_letter(desk, place):
    return LETTERS[need_held(desk, place)]


def tell_house(desk):
    return house_text(desk.clerks.house())


def tell_meet(desk, one, sign, other):
    made = desk.clerks.meet(one, sign, other)
    return "nobody" if made is None else LETTERS[made]


def step_text(step):
    kind, case = step
    return f"{kind}.-" if case < 0 else f"{kind}.{case}"


def tell_who(desk, one, sign, other):
    words = []
    for who, steps, made in asked(desk.clerks.house(), one, sign, other):
        words.append("fore:" if who == FORE else "back:")
        words.extend([step_text(step) for step in steps])
    return " ".join(words)


def tell_kept(desk):
    return str(len(desk.clerks.kept()))


def tell_reckoned(desk):
    return str(desk.clerks.reckoned())


def caller_text(caller):
    if isinstance(caller, tuple):
        return "(" + "".join([str(kind) for kind in caller]) + ")"
    return str(caller)


def tell_promise(desk, sign):
    odd = first_odd(desk.clerks.house(), sign)
    return "yes" if odd is None else " ".join([caller_text(caller) for caller in odd])


# By the first word of a line its shape; those of `kind` and `ranks` hang on how many words there are.
SHAPES = {
    "house": "t",
    "write": "t",
    "strike": "ffs",
    "back": "",
    "put": "ft",
    "done": "fff",
    "show": "",
    "meet": "fff",
    "who": "fff",
    "kept": "",
    "reckoned": "",
    "promise": "f",
    "held": "f",
}
ACTIONS = {
    "house": do_house,
    "kind": do_kind,
    "write": do_write,
    "strike": do_strike,
    "back": do_back,
    "ranks": do_ranks,
    "put": do_put,
    "done": do_done,
    "show": tell_house,
    "meet": tell_meet,
    "who": tell_who,
    "kept": tell_kept,
    "reckoned": tell_reckoned,
    "promise": tell_promise,
    "held": held_letter,
}


def shape_of(words):
    """The shape of a line that begins as these words do; None where there is none."""
    many = len(words) - 1
    if words[0] == "kind":
        return A_FIGURE * many
    if words[0] == "ranks":
        return A_RANK * many if 1 <= many <= len(SIGNS) else None
    return SHAPES.get(words[0])


def rank_read(word):
    """The tuple (rank, way) that a word writes; None where it writes none."""
    if len(word) != 2 or figure_read(word[0]) is None or word[1] not in ("<", ">"):
        return None
    return figure_read(word[0]), (LEFT if word[1] == "<" else RIGHT)


def word_read(word, due):
    """What a word tells in this place; None where it isn't what is due."""
    if due == A_FIGURE:
        return figure_read(word)
    if due == A_RANK:
        return rank_read(word)
    if due == A_SIDE:
        return word if word in (FIRST, SECOND, PLACE) else None
    return word


def line_read(line):
    """The first word of a line, and the list of what the others tell; refuses what is no line."""
    if not isinstance(line, str):
        raise BadLine("this is no text")
    shape = shape_of(line.split(" "))
    if shape is None:
        raise BadLine("no line begins so, or has so many words")
    # Blanks within TEXT, which is always the last, part no words.
    words = line.split(" ", len(shape)) if A_TEXT in shape else line.split(" ")
    if len(words) != len(shape) + 1:
        raise BadLine("no such line has so many words")
    told = [word_read(word, due) for word, due in zip(words[1:], shape)]
    if None in told:
        raise BadLine("a word isn't what is due in its place")
    return words[0], told


class Desk:
    def __init__(self):
        self.begin(house_read(HOUSE_AT_FIRST))

    def begin(self, house):
        """Clerks anew of a house, with ranks and places as at first."""
        self.clerks = Clerks(house)
        self.ranks = ((0, LEFT),) * len(house[1])
        # By each place that isn't empty the kind of its ware.
        self.places = {}

    def say(self, line):
        word, told = line_read(line)
        action = ACTIONS[word]
        return action(self, *told)

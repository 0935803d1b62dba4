"""Several signs in one text: ranks, trees, and how a tree is written and read."""

from dealclerks.errors import NoRanks, NoText, NoTree, TooMany
from dealclerks.kinds import MOST_KINDS, is_between, is_kind_below

LETTERS = "abcdef"
SIGNS = "+-*/"
GREATEST_RANK = 9
LEFT = "left"
RIGHT = "right"
MOST_WARES = 40
# Among signs that wait for their right part.
BRACKET = -1


def is_rank(thing):
    """Whether thing is a tuple (rank, way)."""
    if not isinstance(thing, tuple) or len(thing) != 2:
        return False
    return is_between(thing[0], 0, GREATEST_RANK) and thing[1] in (LEFT, RIGHT)


def is_ranks(thing):
    if not isinstance(thing, tuple) or not 1 <= len(thing) <= len(SIGNS):
        return False
    if not all(is_rank(part) for part in thing):
        return False
    # Signs of one rank have one way.
    return len(set(thing)) == len({rank for rank, way in thing})


def need_ranks(thing):
    if not is_ranks(thing):
        raise NoRanks("these are no ranks")


def is_fork(thing, signs):
    """Whether thing is a tuple of three with one of so many signs in its middle."""
    return isinstance(thing, tuple) and len(thing) == 3 and is_between(thing[1], 0, signs - 1)


def is_tree(thing, kinds, signs):
    """Whether thing is a tree over so many kinds and signs."""
    wares = 0
    parts = [thing]
    while parts:
        # Each of these parts has a ware at least; so what is far too large isn't walked to its end.
        if wares + len(parts) > MOST_WARES:
            return False
        part = parts.pop()
        if is_kind_below(part, kinds):
            wares += 1
        elif is_fork(part, signs):
            parts.extend([part[0], part[2]])
        else:
            return False
    return True


def need_tree(kinds, signs, thing):
    if not is_tree(thing, kinds, signs):
        raise NoTree("this is no tree")


def needs_brackets(ranks, part, sign, way):
    """Whether a part of a tree of this sign stands in brackets; way: that of one rank for which it does."""
    if not isinstance(part, tuple):
        return False
    rank = ranks[sign][0]
    return ranks[part[1]][0] < rank or ranks[part[1]] == (rank, way)


def written_part(ranks, part, sign, way):
    text = written(ranks, part)
    return f"({text})" if needs_brackets(ranks, part, sign, way) else text


def written(ranks, tree):
    if not isinstance(tree, tuple):
        return LETTERS[tree]
    left, sign, right = tree
    return written_part(ranks, left, sign, RIGHT) + SIGNS[sign] + written_part(ranks, right, sign, LEFT)


def tree_text(ranks, tree):
    need_ranks(ranks)
    need_tree(MOST_KINDS, len(ranks), tree)
    return written(ranks, tree)


def need_text(signs, thing):
    """Refuses what can't be read over so many signs, whatever number of wares it has."""
    if not isinstance(thing, str):
        raise NoText(-1)
    depth = 0
    ware_due = True
    for at, mark in enumerate(thing):
        if ware_due and mark == "(":
            depth += 1
        elif ware_due and mark in LETTERS:
            ware_due = False
        elif not ware_due and mark == ")" and depth > 0:
            depth -= 1
        elif not ware_due and mark in SIGNS[:signs]:
            ware_due = True
        else:
            raise NoText(at)
    if ware_due or depth > 0:
        raise NoText(len(thing))


def need_few_wares(text):
    many = sum(1 for mark in text if mark in LETTERS)
    if many > MOST_WARES:
        raise TooMany(many, MOST_WARES)


def binds_ahead(ranks, early, late):
    """Whether an early sign takes the ware between it and a late one, both in the same brackets."""
    rank = ranks[late][0]
    return ranks[early][0] > rank or ranks[early] == (rank, LEFT)


def join_last(trees, waiting):
    """Makes one tree of the last two by the last sign that waits."""
    right = trees.pop()
    left = trees.pop()
    trees.append((left, waiting.pop(), right))


def read_mark(ranks, mark, trees, waiting):
    """Reads one mark: trees are the parts read so far, waiting the signs and brackets between and ahead of them."""
    if mark in LETTERS:
        trees.append(LETTERS.index(mark))
    elif mark == "(":
        waiting.append(BRACKET)
    elif mark == ")":
        while waiting[-1] != BRACKET:
            join_last(trees, waiting)
        waiting.pop()
    else:
        sign = SIGNS.index(mark)
        while waiting and waiting[-1] != BRACKET and binds_ahead(ranks, waiting[-1], sign):
            join_last(trees, waiting)
        waiting.append(sign)


def tree_read(ranks, text):
    need_ranks(ranks)
    need_text(len(ranks), text)
    need_few_wares(text)
    trees = []
    waiting = []
    for mark in text:
        read_mark(ranks, mark, trees, waiting)
    while waiting:
        join_last(trees, waiting)
    return trees[0]

"""What a tree over a house is worth, and the meetings by which it is."""

from dealclerks.books import need_house
from dealclerks.errors import Nobody
from dealclerks.meeting import made_by_kinds
from dealclerks.trees import need_tree


def do_tree(house, lines, tree, done):
    """The kind that a tree is worth; its meetings are put, in order, behind those in the list done."""
    if not isinstance(tree, tuple):
        return tree
    left, sign, right = tree
    one = do_tree(house, lines, left, done)
    other = do_tree(house, lines, right, done)
    made = made_by_kinds(house, lines, one, sign, other)
    if made is None:
        raise Nobody(len(done))
    done.append((one, sign, other, made))
    return made


def need_done(house, tree, done):
    """What do_tree tells; refuses what is wrong in the order of the arguments."""
    lines = need_house(house)
    need_tree(len(lines), len(house[1]), tree)
    return do_tree(house, lines, tree, done)


def doings(house, tree):
    done = []
    need_done(house, tree, done)
    return done


def worth(house, tree):
    return need_done(house, tree, [])

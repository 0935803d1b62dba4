"""Trees, and things that are none, for the tests."""

from itertools import product

from tests.samples import DEEP, PLAIN

LEFT, RIGHT = "left", "right"

# None of these is a tree over six kinds and four signs, nor is one a tree's part.
WRONG_PARTS = [thing for thing in PLAIN + DEEP if not isinstance(thing, int) or isinstance(thing, bool)] + [
    -1, 6, 7, 25, 10 ** 30, -(10 ** 30), (), [], {}, [0], (0,), (0, 0), (0, 0, 0, 0), [0, 0, 0], (0, 0, 0, 0, 0), "a+b", "abc",
    {0: 0}, (0, -1, 0), (0, 10 ** 30, 0), (0, True, 0), (0, False, 0), (0, None, 0), (0, "+", 0), (0, "0", 0), (0, (0,), 0),
    (0, [0], 0), (0, 0, None), (None, 0, 0), (True, 0, 0), (0, 0, True), (6, 0, 0), (0, 0, 6), (-1, 0, 0), ("a", 0, "b"),
    ((0, 0, 0), (0, 0, 0), (0, 0, 0)), (0, 0, (0, 0)), ((0, 0), 0, 0), ([0, 0, 0], 0, 0), (0, 0, [0, 0, 0]), ((0,), 0, 0),
    (0, 0, (0, 0, (0, 0, (0, 0, (0, 0, 6))))), (((((6, 0, 0), 0, 0), 0, 0), 0, 0), 0, 0), (0, 0, ()), ((), 0, ()),
]


def some_tree(random, wares, signs, kinds=6):
    """Some tree of so many wares."""
    if wares == 1:
        return random.randrange(kinds)
    left = random.choice((1, wares - 1, random.randrange(1, wares)))
    sign = random.randrange(signs)
    return some_tree(random, left, signs, kinds), sign, some_tree(random, wares - left, signs, kinds)


def leaning(wares, sign, way):
    """A tree of so many wares that leans to one side alone."""
    tree = 0
    for ware in range(1, wares):
        tree = (tree, sign, ware % 6) if way == LEFT else (ware % 6, sign, tree)
    return tree


def doubled(times):
    tree = 1
    for _ in range(times):
        tree = (tree, 0, tree)
    return tree


def all_trees(wares, signs, kinds=1):
    if wares == 1:
        return list(range(kinds))
    found = []
    for left in range(1, wares):
        found += product(all_trees(left, signs, kinds), range(signs), all_trees(wares - left, signs, kinds))
    return found


def wares_of(tree):
    return 1 if isinstance(tree, int) else wares_of(tree[0]) + wares_of(tree[2])

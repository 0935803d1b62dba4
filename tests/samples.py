"""Families, things that are none, and an oracle for lines, for the tests."""

from itertools import permutations


def nested(depth, wrap):
    """A thing so many deep, each time wrapped anew."""
    thing = 1
    for _ in range(depth):
        thing = wrap(thing)
    return thing


PLAIN = [
    None, True, False, 0, 1, -1, 5, 6, 7, -2, 10 ** 30, 10 ** 31 - 1, -(10 ** 30),
    "", " ", "0", "a", "()", "((),)", "kind", "first\tsecond\n", "~" * 500,
]

DEEP = [
    nested(10, lambda thing: [thing]),
    nested(10, lambda thing: (thing,)),
    nested(10, lambda thing: {"a": thing}),
    nested(10, lambda thing: {(0,): [thing]})[(0,)],
    nested(9, lambda thing: (thing, (), thing) if isinstance(thing, int) else ((), thing)),
    ([((({"a": [(), {}]},),),)],),
    {0: (), 1: (0,)},
    [[None]] * 1000,
    ((),) * 1000,
    (0,) * 3000,
]

NO_FAMILIES = PLAIN + DEEP + [
    (), [], {}, [()], [[]], ([],), ({},), ("",), (None,), (0,), (False,), ((), 0), ((), None), ((), "0"),
    ((),) * 7, ((),) * 8, [()] * 6, ((), (), (), (), (), (), (0,)),
    ((0,),), ((-1,),), ((1,),), ((), (1,)), ((), (2,)), ((), (-1,)), ((), (10 ** 30,)), ((), (-(10 ** 30),)),
    ((), (0, 0)), ((), (), (0, 0)), ((), (), (1, 0, 1)), ((), (), (0, 1, 0, 1)), ((), (), (0, 1, 2)),
    ((), (), (), (0, 1, 3)), ((), (), (), (0, 1, 4)), ((), (), (), (2, -1)), ((), (), (), (), (), (0, 5)),
    ((), (False,)), ((), (True,)), ((), (), (True,)), ((), (), (0, True)), ((), (), (False, 1)), ((), (), (1, True)),
    ((), [0]), ((), (), [0, 1]), [(), (0,)], ([], (0,)), ((), ([0],)), ((), ((0,),)), ((), (None,)), ((), ("0",)),
    ((), "0"), ((), ""), ((), {}), ((), {0: 0}), ((), {0: ()}), ((0,), ()), ((), (0,), [1]), ((), (0,) * 3000),
]

WHATEVER = NO_FAMILIES + [((),), ((), (0,)), ((), (), (1, 0)), (0, 1), (1, 0), (2, (0, 1)), (4, (0, 1)), (4, (1, 0))]

LINED = [
    ((),),
    ((), ()),
    ((), (0,)),
    ((), (0,), (1,)),
    ((), (0,), (0,), (1, 2)),
    ((), (0,), (0,), (2, 1)),
    ((), (), (0, 1), (1,)),
    ((), (), (), (0, 1), (1, 2), (3, 4)),
    ((), (0,), (0,), (1,), (1, 2), (3, 4)),
    ((), (), (), (), (), ()),
    ((), (0,), (1,), (2,), (3,), (4,)),
    ((), (), (), (), (), (4, 3, 2, 1, 0)),
    ((), (0,), (0,), (0,), (1, 2), (4, 3)),
]

# Each with the least kind that has no line.
UNLINED = [
    (((), (0,), (0, 1)), 2),
    (((), (), (0, 1), (1, 0), (2, 3)), 4),
    (((), (), (0, 1), (1, 0), (2, 3), ()), 4),
    (((), (), (0, 1), (1, 0), (2, 3), (4,)), 4),
    (((), (0,), (0, 1), (2,), (0, 1), (4, 3)), 2),
    (((), (), (), (0, 1), (1, 2), (3, 4, 2, 0)), 5),
    (((), (), (0, 1), (1, 2, 0)), 3),
    (((), (), (0, 1), (0, 2)), 3),
    (((), (0,), (), (0, 1, 2), (0, 1)), 3),
]


def families_of(many):
    """All families of so many kinds."""
    found = [()]
    for kind in range(many):
        choices = [row for length in range(kind + 1) for row in permutations(range(kind), length)]
        found = [(*family, row) for family in found for row in choices]
    return found


def some_large_families():
    """Some of the families of six kinds, spread over all of them."""
    rows = [row for length in range(6) for row in permutations(range(5), length)]
    return [(*family, rows[at * 37 % len(rows)]) for at, family in enumerate(families_of(5)) if at % 4 == 0]


class Oracle:
    """A Python class made for each kind, so that Python's own order of classes tells the line.

    Python merges the orders of the bases and the row of the bases by the same rule; only `object` is added.
    """

    def __init__(self, family):
        self.family = family
        self.made = []
        for elders in family:
            self.made.append(self.under(elders))

    def under(self, elders):
        """The class for a kind with these elders, None where Python finds no order."""
        bases = [self.made[elder] for elder in elders]
        if None in bases:
            return None
        try:
            return type("K", tuple(bases), {})
        except TypeError:
            return None

    def numbers(self, order):
        return tuple(self.made.index(one) for one in order if one is not object)

    def line(self, kind):
        made = self.made[kind]
        return None if made is None else self.numbers(made.__mro__)

    def told(self, row):
        made = self.under(row)
        return None if made is None else self.numbers(made.__mro__[1:])

    def least_unlined(self):
        return self.made.index(None) if None in self.made else None

    def rows(self, kind):
        return [self.line(elder) for elder in self.family[kind]] + [self.family[kind]]

"""Houses, things that are none, and Python's own operators as an oracle of meetings, for the tests."""

import operator
from itertools import product
from random import Random

from tests.samples import DEEP, LINED, NO_FAMILIES, PLAIN, UNLINED

DIAMOND = ((), (0,), (0,), (1, 2))
FIRST, SECOND, PLACE = "first", "second", "place"

# Sign 0 is a sided one, 1 and 2 are each other's mirror, 3 is its own.
MIXED = (-1, 2, 1, 3)

MIRRORS = [
    (-1,), (0,),
    (-1, -1), (-1, 1), (0, -1), (0, 1), (1, 0),
    (-1, -1, -1), (0, 1, 2), (-1, 2, 1), (1, 0, -1), (2, -1, 0), (2, 1, 0), (-1, 1, -1),
    (-1, -1, -1, -1), (0, 1, 2, 3), (3, 2, 1, 0), (1, 0, 3, 2), (2, 3, 0, 1), MIXED, (-1, 1, 3, 2), (3, -1, -1, 0),
]

NO_MIRRORS = PLAIN + DEEP + [
    (), (-1, -1, -1, -1, -1), (0, 1, 2, 3, 4), (1,), (2,), (-2,), (10 ** 30,), (-(10 ** 30),),
    (1, 1), (0, 0), (1, -1), (-1, 0), (0, 2), (2, 0), (-1, 2), (-2, -1), (-1, -2), (0, -2), (1, 2, 0), (2, 0, 1),
    (1, 0, 3), (1, 0, 1), (-1, 0, 1), (0, 1, -2), (0, 1, 3), (1, 2, 3, 0), (3, 2, 1, -1), (1, 0, 3, 3), (1, 0, 2, 4),
    (True,), (False,), (True, False), (1, False), (True, 0), (False, 1), (0, True), (-1, True), (None,), (-1, None),
    ("0",), ("-1",), "0", "-1", [], [0], [-1], [1, 0], ([0],), ((0,),), ((-1,),), (-1, (1,)), (-1, [1]), ({},),
    {}, {0: -1}, {0: 0}, {-1: 0}, ((),), ((), ()), ([],),
]

NO_WRITINGS = PLAIN + DEEP + [
    (), [], {}, ((-1, -1),) * 7, ((0, 0),) * 8, [(-1, -1)], [(-1, -1)] * 6, ([-1, -1],), ((-1, -1), [-1, -1]),
    (-1, -1), (0, 0), ((),), ((-1,),), ((-1, -1, -1),), ((0,),), ((0, 0, 0),), ((-1, -1), ()), ((-1, -1), (0,)),
    ((-1, -1), (0, 0, 0)), ((4, 0),), ((5, -1),), ((0, 4),), ((0, 10 ** 30),), ((10 ** 30, 0),), ((-2, 0),),
    ((-2, -2),), ((0, -3),), ((-1, -3),), ((-1, -(10 ** 30)),), ((-1, -1), (-2, 0)), ((-1, -1), (0, -3)),
    ((-1, -1), (4, 0)), ((-1, -1), (0, 4)), ((True, 0),), ((0, True),), ((False, 0),), ((0, False),), ((-1, True),),
    ((True, -1),), ((None, 0),), ((0, None),), (("0", 0),), ((0, "0"),), (("*", "on"),), (((0,), 0),), ((0, (0,)),),
    (([], []),), ((-1, [0]),), (((0, 1), 0),), ({},), ({0: 0},), ({-1: 0, 0: 0},), ((-1, -1), None), ("ab",),
    ((-1, -1),) * 5 + ((-1, -3),), ((-1, -1),) * 5 + ((4, 0),), {(-1, -1): 0},
]

# None of these may stand as a key in the books of DIAMOND and MIXED.
NO_PAGES = [
    None, True, 0, 10 ** 30, "", "first", "0 0 first", (), (0,), (0, 0), (0, FIRST), (0, 0, FIRST, 0), (0, 0, 0, FIRST),
    (0, 0, 0), (0, FIRST, 0), (FIRST, 0, 0), (4, 0, FIRST), (-1, 0, FIRST), (10 ** 30, 0, FIRST), (0, 4, FIRST),
    (0, -1, FIRST), (0, -2, FIRST), (0, 10 ** 30, FIRST), (0, 1, SECOND), (0, 2, SECOND), (3, 3, SECOND),
    (True, 0, FIRST), (False, 0, FIRST), (0, True, FIRST), (0, False, FIRST), (None, 0, FIRST), (0, None, FIRST),
    ("0", 0, FIRST), (0, "0", FIRST), (0, 0, ""), (0, 0, "First"), (0, 0, "FIRST"), (0, 0, "first "), (0, 0, " first"),
    (0, 0, "firs"), (0, 0, "third"), (0, 0, "fore"), (0, 0, "in place"), (0, 0, "places"), (0, 0, None), (0, 0, True),
    (0, 0, (FIRST,)), ((0,), 0, FIRST), (0, (0,), FIRST), (0, -1, SECOND), (0, -1, PLACE), (4, 4, PLACE),
    ((0, 0, FIRST),), ((0, 0, FIRST), (0, 0, PLACE)), ((((((((0,),),),),),),), 0, FIRST),
]

WRITING = ((3, 1), (-1, -2))


def right_books():
    """A new dict: books of DIAMOND and MIXED."""
    return {
        (0, 0, FIRST): ((3, 2), (1, -2), (-1, 0)),
        (1, 0, FIRST): WRITING,
        (3, 0, SECOND): ((0, 3), (-1, -1)),
        (2, 1, FIRST): ((-1, -2),),
        (0, 2, FIRST): ((-1, -1),) * 6,
        (3, 3, PLACE): ((3, 3),),
    }


def no_books():
    """What aren't books of DIAMOND and MIXED."""
    wrong = [thing for thing in PLAIN + DEEP if thing != {}]
    wrong += [(), [], [((0, 0, FIRST), WRITING)], (((0, 0, FIRST), WRITING),), [(0, 0, FIRST)], ({},), [{}]]
    for page in NO_PAGES:
        wrong.append({page: WRITING})
        # Ahead of the right ones: by a page that is alike to Python, as of a truth, the first one would stay.
        wrong.append({page: WRITING, **right_books()})
    for writing in NO_WRITINGS:
        wrong.append({(0, 0, FIRST): writing})
        wrong.append({**right_books(), (3, 3, FIRST): writing})
    return wrong


def no_houses():
    """What are no houses."""
    wrong = PLAIN + DEEP
    wrong += [(family, (-1,), {}) for family in NO_FAMILIES]
    wrong += [(family, (-1,), {}) for family, kind in UNLINED]
    wrong += [(family, (-1,), {(0, 0, FIRST): ((-1, 0),)}) for family, kind in UNLINED]
    wrong += [(DIAMOND, mirrors, {}) for mirrors in NO_MIRRORS]
    wrong += [(DIAMOND, MIXED, books) for books in no_books()]
    wrong += [
        (), (DIAMOND,), (DIAMOND, MIXED), (DIAMOND, {}), (MIXED, {}), (DIAMOND, MIXED, {}, {}), (DIAMOND, MIXED, {}, None),
        [DIAMOND, MIXED, {}], [DIAMOND, MIXED, right_books()], (MIXED, DIAMOND, {}), ({}, MIXED, DIAMOND),
        (DIAMOND, {}, MIXED), ((DIAMOND, MIXED, {}),), {0: DIAMOND, 1: MIXED, 2: {}}, {DIAMOND: MIXED},
        (list(DIAMOND), MIXED, {}), (DIAMOND, list(MIXED), {}), (None, None, None), (DIAMOND, MIXED, None),
        (((),), (-1,), {(1, 0, FIRST): ((-1, 0),)}), (((),), (-1,), {(0, 1, FIRST): ((-1, 0),)}),
        (((),), (-1,), {(0, 0, FIRST): ((1, 0),)}), (((),), (-1,), {(0, 0, FIRST): ((0, 1),)}),
        (((),), (0,), {(0, 0, SECOND): ((0, 0),)}), (((),), (-1, 1), {(0, 1, SECOND): ((0, 0),)}),
    ]
    return wrong


def sides(mirrors, sign):
    return (FIRST, SECOND, PLACE) if mirrors[sign] == -1 else (FIRST, PLACE)


def pages(family, mirrors):
    """All (kind, sign, side) by which a writing may stand."""
    places = product(range(len(family)), range(len(mirrors)))
    return [(kind, sign, side) for kind, sign in places for side in sides(mirrors, sign)]


def some_writing(random, many):
    """A writing in which handing on is as likely as making something."""
    cases = random.randint(1, 6)
    return tuple((random.randrange(-1, many), random.choice((-2, -2, -1, random.randrange(many)))) for _ in range(cases))


def some_house(seed):
    """A house that hangs on the seed alone."""
    random = Random(seed)
    family = LINED[seed % len(LINED)]
    mirrors = MIRRORS[random.randrange(len(MIRRORS))]
    share = random.choice((0.2, 0.5, 0.9))
    books = {page: some_writing(random, len(family)) for page in pages(family, mirrors) if random.random() < share}
    return family, mirrors, books


def some_answering_house(seed):
    """A house that hangs on the seed alone, in which each meeting is answered."""
    random = Random(seed)
    family, mirrors, drawn = some_house(seed)
    many = len(family)
    grounds = {(kind, sign, FIRST): ((-1, random.randrange(many)),)
               for kind in range(many) if not family[kind] for sign in range(len(mirrors))}
    books = {}
    for page, writing in {**grounds, **drawn}.items():
        # Behind a kind without elders there is nobody to hand on to.
        barred = (-1,) if family[page[0]] else (-1, -2)
        cases = [(other, random.randrange(many) if what in barred else what) for other, what in writing[:5]]
        books[page] = (*cases, (-1, random.randrange(many)))
    return family, mirrors, books


def some_keeping_house(seed, sign):
    """A house that hangs on the seed alone, and keeps the promise for this sign of its mirrors; None without it."""
    family, mirrors, books = some_answering_house(seed)
    if sign >= len(mirrors):
        return None
    made = seed % len(family)
    if mirrors[sign] == sign:
        # Both askings are made by the same pages, so all of them have to make the same kind.
        books = {page: tuple((other, what if what == -2 else made) for other, what in writing)
                 for page, writing in books.items()}
    else:
        back = (sign, SECOND) if mirrors[sign] == -1 else (mirrors[sign], FIRST)
        books = {page: writing for page, writing in books.items() if page[1:] != back}
    return family, mirrors, books


def all_made(house):
    """What each two kinds make by each sign, by (one, sign, other), as Python's own operators tell it."""
    found = {}
    for sign in range(len(house[1])):
        wares = Wares(house, sign)
        for one, other in product(range(len(house[0])), repeat=2):
            found[one, sign, other] = made_of(wares.asked(one, other))
    return found


def mixed_house():
    return DIAMOND, MIXED, right_books()


class Wares:
    """A Python class for each kind of a house, and Python's own `+` and `+=` for one of the signs.

    Python looks for `__add__` of the left one and `__radd__` of the right one, has the right one's go ahead where its
    class stands below the left one's and brings another `__radd__`, and asks but the left one where both classes are
    one. Handing on is `super()`, giving up is NotImplemented, `place` is `__iadd__`.
    """

    WHO = {"__add__": 0, "__radd__": 1, "__iadd__": 2}

    def __init__(self, house, sign):
        family, mirrors, books = house
        back = (sign, SECOND) if mirrors[sign] == -1 else (mirrors[sign], FIRST)
        pages = {"__add__": (sign, FIRST), "__radd__": back, "__iadd__": (sign, PLACE)}
        self.log = []
        # Below all classes, so that an asking without any writing is seen, too.
        self.ground = type("Ground", (), {name: self.at_ground(name) for name in pages})
        self.made = []
        for kind, elders in enumerate(family):
            methods = {name: self.by_writing(name, kind, books[kind, *page])
                       for name, page in pages.items() if (kind, *page) in books}
            self.made.append(self.under(elders, methods))

    def under(self, elders, methods):
        bases = tuple(self.made[elder] for elder in elders) or (self.ground,)
        return type("K", bases, methods)

    def at_ground(self, name):
        def method(this, other):
            self.log.append((name, None, None))
            return NotImplemented
        return method

    def by_writing(self, name, kind, writing):
        def method(this, other):
            taking = [case for case, (who, _) in enumerate(writing) if who == -1 or isinstance(other, self.made[who])]
            case = taking[0] if taking else -1
            self.log.append((name, kind, case))
            what = writing[case][1] if taking else -1
            if what == -2:
                return getattr(super(self.made[kind], this), name)(other)
            return NotImplemented if what == -1 else what
        return method

    def ware(self, caller):
        """A new ware of a kind, or of a kind to come that no other ware has."""
        return self.made[caller]() if isinstance(caller, int) else self.under(caller, {})()

    def told(self, made):
        """The askings that were logged; made is what the last of them made, None where it made nothing."""
        askings = []
        for name in dict.fromkeys(name for name, kind, case in self.log):
            steps = tuple((kind, case) for of, kind, case in self.log if of == name and kind is not None)
            askings.append((self.WHO[name], steps, -1))
        if made is not None:
            askings[-1] = (*askings[-1][:2], made)
        return askings

    def do(self, sign, one, other):
        self.log.clear()
        try:
            return self.told(sign(one, other))
        except TypeError:
            return self.told(None)

    def asked(self, one, other):
        return self.do(operator.add, self.ware(one), self.ware(other))

    def in_place(self, one, other):
        return self.do(operator.iadd, self.ware(one), self.ware(other))

    def itself(self, one):
        ware = self.ware(one)
        return self.do(operator.add, ware, ware)

    def ask(self, name, one, other):
        """The tuple (steps, made) of one asking by `__add__` or `__iadd__`."""
        ware = self.ware(one)
        self.log.clear()
        made = getattr(ware, name)(self.ware(other))
        return self.told(None if made is NotImplemented else made)[0][1:]


def made_of(askings):
    """The kind that the last asking made, None where it made none."""
    return None if askings[-1][2] == -1 else askings[-1][2]

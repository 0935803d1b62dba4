"""Houses alike (8.1 to 8.4)."""

import inspect
import unittest
from itertools import product
from random import Random

from dealclerks import likeness
from dealclerks.books import is_house
from dealclerks.errors import NoHouse, TooMany, Unlike
from dealclerks.lines import callers
from dealclerks.meeting import asked, in_place, itself, meets, placed
from tests.houses import (
    FIRST, MIRRORS, MIXED, PLACE, SECOND, Wares, made_of, mixed_house, no_houses, pages, right_books, sides,
    some_answering_house, some_house, some_writing)
from tests.refusals import check, check_no_house
from tests.samples import LINED

SIDED, OWN, TURNED = (-1,), (0,), (1, 0)
PAIR = ((), ())
SMALL = [family for family in LINED if len(family) <= 3] + [((), (), ()), ((), (), (0, 1)), ((), (), (1, 0)), ((), (0,), ())]


def books_of(family, mirrors, random, share, cases=6):
    return {page: some_writing(random, len(family))[:cases] for page in pages(family, mirrors) if random.random() < share}


def small_house(seed):
    """A house of one to three kinds that hangs on the seed alone."""
    random = Random(seed)
    family = SMALL[seed % len(SMALL)]
    mirrors = MIRRORS[random.randrange(len(MIRRORS))]
    return family, mirrors, books_of(family, mirrors, random, random.choice((0.3, 0.6, 1)), random.randint(1, 6))


def with_books(house, books):
    return house[0], house[1], books


def near_books(random, house):
    """The books with a writing in, out, turned, with two cases exchanged, with a case more."""
    family, mirrors, books = house
    page = random.choice(pages(family, mirrors))
    yield {**books, page: some_writing(random, len(family))}
    if books:
        page = random.choice(sorted(books))
        writing = books[page]
        yield {key: books[key] for key in books if key != page}
        yield {**books, page: writing[::-1]}
        at, to = random.randrange(len(writing)), random.randrange(len(writing))
        cases = list(writing)
        cases[at], cases[to] = cases[to], cases[at]
        yield {**books, page: tuple(cases)}
        yield {**books, page: writing[:5] + ((-1, -1),)}


def made_by_kinds(house):
    """By (one, sign, other) of kinds, what their meeting makes and what it makes done in place."""
    found = {}
    for sign in range(len(house[1])):
        wares = Wares(house, sign)
        for one, other in product(range(len(house[0])), repeat=2):
            found[one, sign, other] = made_of(wares.asked(one, other)), made_of(wares.in_place(one, other))
    return found


def made_by_callers(house):
    """What all callers make, in the order of 8.1: by (one, sign) with themselves, by (one, sign, other) with others."""
    found = {}
    signs = [Wares(house, sign) for sign in range(len(house[1]))]
    everyone = callers(house[0])
    for one in everyone:
        for sign, wares in enumerate(signs):
            found[one, sign] = made_of(wares.itself(one))
            for other in everyone:
                if isinstance(one, tuple) or one != other:
                    found[one, sign, other] = made_of(wares.asked(one, other))
    return found


def first_unlike(one, other):
    unlike = [key for key in one if one[key] != other[key]]
    return unlike[0] if unlike else None


def least_unlike(one, other):
    return min((key for key in one if one[key] != other[key]), default=None)


def idle_by_the_words(house):
    """The idle cases, by all askings that all meetings of all callers make."""
    family, mirrors, books = house
    everyone = callers(family)
    come_to = set()
    for sign in range(len(mirrors)):
        back = (sign, SECOND) if mirrors[sign] == -1 else (mirrors[sign], FIRST)
        by_who = {0: (sign, FIRST), 1: back, 2: (sign, PLACE)}
        for one, other in product(everyone, repeat=2):
            for who, steps, made in asked(house, one, sign, other) + in_place(house, one, sign, other):
                come_to |= {(kind, *by_who[who], case) for kind, case in steps}
    cases = [(*page, case) for page in books for case in range(len(books[page]))]
    return sorted(case for case in cases if case not in come_to)


def pruned_by_the_words(house):
    family, mirrors, books = house
    wanted = made_by_kinds(house), made_by_callers(house)
    left = dict(books)
    spare = True
    while spare:
        spare = None
        for page in sorted(left, reverse=True):
            shorter = (family, mirrors, {key: left[key] for key in left if key != page})
            if made_by_kinds(shorter) == wanted[0] and made_by_callers(shorter) == wanted[1]:
                spare = page
                del left[page]
                break
    return family, mirrors, left


class InterfaceTest(unittest.TestCase):
    def test_names_of_arguments(self):
        for name in ("tell_tale", "tale_to_come", "beside"):
            self.assertEqual(list(inspect.signature(getattr(likeness, name)).parameters), ["one", "other"])
        for name in ("idle_cases", "lean", "pruned"):
            self.assertEqual(list(inspect.signature(getattr(likeness, name)).parameters), ["house"])

    def test_calls_by_names(self):
        one = (PAIR, SIDED, {(0, 0, FIRST): ((-1, 0),)})
        other = (PAIR, SIDED, {(0, 0, FIRST): ((1, 1), (-1, 0), (-1, 1))})
        self.assertEqual(likeness.tell_tale(other=other, one=one), (0, 0, 1))
        self.assertEqual(likeness.tale_to_come(other=other, one=one), (0, 0, 1))
        self.assertEqual(likeness.idle_cases(house=other), [(0, 0, FIRST, 2)])
        self.assertEqual(likeness.lean(house=other)[2], {(0, 0, FIRST): ((1, 1), (-1, 0))})
        self.assertEqual(likeness.pruned(house=one), one)
        beside = likeness.beside(other=other, one=one)
        self.assertEqual(beside[2][2, 0, FIRST], ((3, 3), (-1, 2), (-1, 3)))


class RefusalsTest(unittest.TestCase):
    def test_no_house_of_one(self):
        for name in ("idle_cases", "lean", "pruned"):
            check_no_house(self, getattr(likeness, name), [])

    def test_no_house_of_two(self):
        right = mixed_house()
        other = (PAIR, OWN, {})
        for name in ("tell_tale", "tale_to_come", "beside"):
            function = getattr(likeness, name)
            for at, wrong in enumerate(no_houses()):
                check(self, NoHouse, function, [wrong, right])
                check(self, NoHouse, function, [right, wrong])
                check(self, NoHouse, function, [wrong, other if at % 2 else wrong])
                check(self, NoHouse, function, [other, wrong])

    def test_unlike(self):
        houses = [(family, mirrors, {}) for family in LINED[:6] for mirrors in MIRRORS[:8]]
        for one, other in product(houses, repeat=2):
            for function in (likeness.tell_tale, likeness.tale_to_come):
                if one[:2] == other[:2]:
                    self.assertIsNone(function(one, other))
                else:
                    check(self, Unlike, function, [one, other])

    def test_unlike_ahead_of_a_tale(self):
        one = (PAIR, SIDED, {(0, 0, FIRST): ((-1, 0),)})
        for other in ((((), (0,)), SIDED, {}), (PAIR, OWN, {}), (PAIR, (-1, -1), {}), (((), (), ()), SIDED, one[2])):
            check(self, Unlike, likeness.tell_tale, [one, other])
            check(self, Unlike, likeness.tale_to_come, [other, one])


class TaleTest(unittest.TestCase):
    def check_pair(self, one, other):
        """That both functions tell what the words do; what they tell."""
        tale = least_unlike(made_by_kinds(one), made_by_kinds(other))
        self.assertEqual(likeness.tell_tale(one, other), tale, (one, other))
        self.assertEqual(likeness.tell_tale(other, one), tale)
        to_come = first_unlike(made_by_callers(one), made_by_callers(other))
        self.assertEqual(likeness.tale_to_come(one, other), to_come, (one, other))
        self.assertEqual(likeness.tale_to_come(other, one), to_come)
        return tale, to_come

    def test_a_house_and_itself(self):
        for seed in range(39):
            house = some_house(seed)
            again = some_house(seed)
            for other in (house, again):
                self.assertIsNone(likeness.tell_tale(house, other))
                self.assertIsNone(likeness.tale_to_come(house, other))

    def test_nobody_is_something_of_its_own(self):
        one = (PAIR, SIDED, {})
        other = (PAIR, SIDED, {(1, 0, FIRST): ((1, 0),)})
        self.assertEqual(self.check_pair(one, other), ((1, 0, 1), (1, 0)))
        # Giving up and having no writing are alike.
        self.assertEqual(self.check_pair(one, (PAIR, SIDED, {(1, 0, FIRST): ((1, -1),)})), (None, None))

    def test_other_steps_are_no_tale(self):
        one = (PAIR, SIDED, {(0, 0, FIRST): ((0, 1), (-1, 1))})
        other = (PAIR, SIDED, {(0, 0, FIRST): ((-1, 1),)})
        self.assertEqual(self.check_pair(one, other), (None, None))

    def test_the_least_one(self):
        one = (PAIR, (-1, -1), {})
        other = (PAIR, (-1, -1), {(1, 0, FIRST): ((0, 0),), (0, 1, FIRST): ((1, 0),)})
        self.assertEqual(self.check_pair(one, other), ((0, 1, 1), (0, 1, 1)))
        other = (PAIR, (-1, -1), {(0, 1, FIRST): ((0, 0),), (0, 0, FIRST): ((1, 0),)})
        self.assertEqual(self.check_pair(one, other), ((0, 0, 1), (0, 0, 1)))

    def test_by_the_mirror(self):
        # The books differ by sign 0 alone; by sign 1 that counts as the back asking.
        one = (PAIR, TURNED, {})
        other = (PAIR, TURNED, {(1, 0, FIRST): ((0, 1),)})
        self.assertEqual(self.check_pair(one, other), ((0, 1, 1), (0, 1, 1)))

    def test_itself_ahead(self):
        one = (PAIR, SIDED, {})
        other = (PAIR, SIDED, {(0, 0, FIRST): ((0, 1),)})
        self.assertEqual(self.check_pair(one, other), ((0, 0, 0), (0, 0)))
        # Only rows are two kinds of one row; of kind 0 with itself the back asking isn't made.
        other = (((),), SIDED, {(0, 0, SECOND): ((0, 0),)})
        self.assertEqual(self.check_pair((((),), SIDED, {}), other), (None, (0, 0, (0,))))

    def test_alike_for_all_kinds_but_not_for_those_to_come(self):
        one = (PAIR, SIDED, {(0, 0, FIRST): ((0, 0), (1, 1))})
        other = (PAIR, SIDED, {(0, 0, FIRST): ((1, 1), (0, 0))})
        self.assertEqual(self.check_pair(one, other), (None, (0, 0, (0, 1))))
        one = (PAIR, SIDED, {(0, 0, FIRST): ((0, 0), (-1, -2)), (1, 0, FIRST): ((0, 0), (1, 0))})
        other = (PAIR, SIDED, {(0, 0, FIRST): ((0, 0),), (1, 0, FIRST): ((0, 0), (1, 0))})
        tale, to_come = self.check_pair(one, other)
        self.assertIsNone(tale)
        self.assertEqual(to_come, ((0, 1), 0, 1))

    def test_done_in_place(self):
        one = (PAIR, SIDED, {(0, 0, FIRST): ((-1, 0),)})
        other = (PAIR, SIDED, {(0, 0, FIRST): ((-1, 0),), (0, 0, PLACE): ((1, 1), (-1, 0))})
        self.assertEqual(self.check_pair(one, other), ((0, 0, 1), None))
        other = (PAIR, SIDED, {(0, 0, FIRST): ((-1, 0),), (0, 0, PLACE): ((1, 0), (0, -1))})
        self.assertEqual(self.check_pair(one, other), (None, None))
        # The meeting makes something else, but isn't come to in place.
        one = (PAIR, SIDED, {(0, 0, PLACE): ((-1, 0),)})
        other = (PAIR, SIDED, {(0, 0, PLACE): ((-1, 0),), (0, 0, FIRST): ((1, 0),)})
        self.assertEqual(self.check_pair(one, other), ((0, 0, 1), (0, 0, 1)))

    def test_in_place_counts_for_kinds_alone(self):
        one = (PAIR, SIDED, {(0, 0, PLACE): ((0, 0), (1, 1))})
        other = (PAIR, SIDED, {(0, 0, PLACE): ((1, 1), (0, 0))})
        self.assertNotEqual(placed(one, 0, 0, (0, 1)), placed(other, 0, 0, (0, 1)))
        self.assertEqual(self.check_pair(one, other), (None, None))

    def test_near_ones(self):
        random = Random(6)
        found = {}
        for seed in range(64):
            house = small_house(seed)
            for books in near_books(random, house):
                tale, to_come = self.check_pair(house, with_books(house, books))
                key = tale is None, to_come is None
                found[key] = found.get(key, 0) + 1
        self.assertEqual(len(found), 4)
        self.assertGreater(min(found.values()), 3)

    def test_larger_families(self):
        random = Random(7)
        for seed in range(4, 13):
            house = some_answering_house(seed)
            for books in list(near_books(random, house))[:3]:
                other = with_books(house, books)
                tale = least_unlike(made_by_kinds(house), made_by_kinds(other))
                self.assertEqual(likeness.tell_tale(house, other), tale)
                to_come = likeness.tale_to_come(house, other)
                if tale is not None and made_by_kinds(house)[tale][0] != made_by_kinds(other)[tale][0]:
                    self.assertIsNotNone(to_come)
                if to_come is not None and len(to_come) == 2:
                    self.assertNotEqual(itself(house, *to_come), itself(other, *to_come))
                elif to_come is not None:
                    self.assertNotEqual(meets(house, *to_come), meets(other, *to_come))

    def test_four_kinds(self):
        random = Random(8)
        for seed in (4, 5, 6, 17):
            house = some_house(seed)
            self.assertEqual(len(house[0]), 4)
            house = (house[0], OWN if seed % 2 else SIDED, {})
            house = with_books(house, books_of(*house[:2], random, 0.7))
            for books in near_books(random, house):
                self.check_pair(house, with_books(house, books))


class LeanTest(unittest.TestCase):
    def check_house(self, house):
        """That idle_cases and lean tell what the words do; how many cases are idle."""
        idle = idle_by_the_words(house)
        self.assertEqual(likeness.idle_cases(house), idle, house)
        told = likeness.lean(house)
        wanted = {}
        for page, writing in house[2].items():
            left = tuple(case for at, case in enumerate(writing) if (*page, at) not in idle)
            wanted[page] = left or ((-1, -1),)
        self.assertEqual(told, with_books(house, wanted))
        self.assertTrue(is_house(told))
        self.assertIsNone(likeness.tell_tale(house, told))
        self.assertIsNone(likeness.tale_to_come(house, told))
        for *page, case in likeness.idle_cases(told):
            self.assertEqual((case, told[2][tuple(page)]), (0, ((-1, -1),)))
        self.assertEqual(likeness.lean(told), told)
        return len(idle)

    def test_behind_whoever(self):
        house = (PAIR, SIDED, {(0, 0, FIRST): ((-1, 0), (0, 1), (-1, 1))})
        self.assertEqual(likeness.idle_cases(house), [(0, 0, FIRST, 1), (0, 0, FIRST, 2)])
        self.assertEqual(likeness.lean(house)[2], {(0, 0, FIRST): ((-1, 0),)})
        self.check_house(house)

    def test_come_to_by_rows_alone(self):
        # Kind 1's book is come to by kind 0's handing on: of a row (0, 1) alone.
        house = (PAIR, SIDED, {(0, 0, FIRST): ((-1, -2),), (1, 0, FIRST): ((0, 0), (-1, 1))})
        self.assertEqual(likeness.idle_cases(house), [])
        # Case 1 takes only who comes of 1; each that meets so comes of 0 as well, unless it is 1 or under it.
        house = (PAIR, SIDED, {(0, 0, FIRST): ((0, 0), (1, 1), (1, 0))})
        self.assertEqual(likeness.idle_cases(house), [(0, 0, FIRST, 2)])

    def test_two_kinds_to_come_of_one_row(self):
        # By one kind alone the back asking of a kind and itself isn't made, but that of two of one row is.
        house = (((),), SIDED, {(0, 0, SECOND): ((0, 0),)})
        self.assertEqual(likeness.idle_cases(house), [])
        # The fore asking always makes something: the back one is made nowhere.
        house = (((),), SIDED, {(0, 0, SECOND): ((0, 0), (-1, -1)), (0, 0, FIRST): ((-1, 0),)})
        self.assertEqual(likeness.idle_cases(house), [(0, 0, SECOND, 0), (0, 0, SECOND, 1)])
        self.assertEqual(likeness.lean(house)[2], {(0, 0, SECOND): ((-1, -1),), (0, 0, FIRST): ((-1, 0),)})
        self.check_house(house)

    def test_a_writing_of_which_none_is_left(self):
        # It still counts as a writing that is found, so that an heir goes ahead by it.
        house = (((), (0,)), SIDED, {(0, 0, FIRST): ((-1, 0),), (1, 0, SECOND): ((1, 1),)})
        self.check_house(house)
        house = (PAIR, SIDED, {(0, 0, PLACE): ((-1, -1), (-1, 1), (0, 0))})
        self.assertEqual(likeness.lean(house)[2], {(0, 0, PLACE): ((-1, -1),)})
        self.check_house(house)

    def test_in_place(self):
        house = (PAIR, SIDED, {(0, 0, PLACE): ((1, 0), (0, 1), (-1, 0))})
        self.assertEqual(likeness.idle_cases(house), [(0, 0, PLACE, 2)])
        # What is made in place hides no meeting: this is made not in place, too.
        house = (((),), SIDED, {(0, 0, PLACE): ((-1, 0),), (0, 0, FIRST): ((0, 0),)})
        self.assertEqual(likeness.idle_cases(house), [])

    def test_rising(self):
        writing = ((-1, -1),) * 3
        house = (PAIR, (-1, 1), {(kind, sign, side): writing for kind in (1, 0) for sign in (1, 0)
                                 for side in sides((-1, 1), sign)[::-1]})
        told = likeness.idle_cases(house)
        self.assertEqual(told, sorted(told))
        self.check_house(house)

    def test_small_houses(self):
        idle = none_left = 0
        for seed in range(64):
            house = small_house(seed)
            idle += self.check_house(house)
            told = likeness.lean(house)
            none_left += len([page for page in told[2] if told[2][page] == ((-1, -1),) and (-1, -1) not in house[2][page]])
        self.assertGreater(idle, 300)
        self.assertGreater(none_left, 5)

    def test_larger_families(self):
        for seed in (4, 6, 7, 9, 11):
            house = some_answering_house(seed)
            told = likeness.lean(house)
            self.assertLess(sum(map(len, told[2].values())), sum(map(len, house[2].values())))
            self.assertIsNone(likeness.tell_tale(house, told))
            self.assertIsNone(likeness.tale_to_come(house, told))
            self.assertEqual(likeness.lean(told), told)

    def test_new_each_time(self):
        house = mixed_house()
        told = likeness.idle_cases(house)
        self.assertIs(type(told), list)
        before = list(told)
        told.clear()
        told.append(None)
        self.assertEqual(likeness.idle_cases(house), before)
        lean = likeness.lean(house)
        self.assertIsNot(likeness.lean(lean)[2], lean[2])
        likeness.lean(lean)[2].clear()
        lean[2].clear()
        self.assertNotEqual(likeness.lean(house)[2], {})
        self.assertEqual(house, mixed_house())


class BesideTest(unittest.TestCase):
    def test_small(self):
        one = (((), (0,)), SIDED, {(1, 0, FIRST): ((0, 1), (-1, -2))})
        other = (((), (0,), (1, 0)), SIDED, {(0, 0, SECOND): ((-1, -1), (2, 0)), (2, 0, PLACE): ((1, -2), (0, 2))})
        self.assertEqual(likeness.beside(one, other), (
            ((), (0,), (), (2,), (3, 2)), SIDED,
            {(1, 0, FIRST): ((0, 1), (-1, -2)), (2, 0, SECOND): ((-1, -1), (4, 2)), (4, 0, PLACE): ((3, -2), (2, 4))}))
        self.assertEqual(likeness.beside(other, one), (
            ((), (0,), (1, 0), (), (3,)), SIDED,
            {(0, 0, SECOND): ((-1, -1), (2, 0)), (2, 0, PLACE): ((1, -2), (0, 2)), (4, 0, FIRST): ((3, 4), (-1, -2))}))

    def test_one_beside_itself(self):
        house = (((), (0,), (0,)), SIDED, {(1, 0, FIRST): ((0, 1), (-1, -2)), (0, 0, PLACE): ((2, 2),)})
        told = likeness.beside(house, house)
        self.assertEqual(told[0], ((), (0,), (0,), (), (3,), (3,)))
        self.assertEqual(told[2], {**house[2], (4, 0, FIRST): ((3, 4), (-1, -2)), (3, 0, PLACE): ((5, 5),)})

    def test_unlike_ahead_of_too_many(self):
        for one, other in product(MIRRORS, repeat=2):
            if one != other:
                check(self, Unlike, likeness.beside, [(((),) * 6, one, {}), (((),) * 6, other, {})])
                check(self, Unlike, likeness.beside, [(((),), one, {}), (((),), other, {})])

    def test_too_many(self):
        for one, other in product(range(1, 7), repeat=2):
            houses = [(((),) * many, OWN, {}) for many in (one, other)]
            if one + other <= 6:
                self.assertEqual(likeness.beside(*houses), (((),) * (one + other), OWN, {}))
            else:
                with self.assertRaises(TooMany) as caught:
                    likeness.beside(*houses)
                self.assertEqual((caught.exception.many, caught.exception.most), (one + other, 6))

    def test_of_the_families_nothing_is_asked(self):
        self.assertEqual(likeness.beside((((), (0,)), OWN, {}), (((),), OWN, {})), (((), (0,), ()), OWN, {}))

    def test_meetings_within_each(self):
        for seed in range(32):
            random = Random(seed)
            mirrors = MIRRORS[seed % len(MIRRORS)]
            houses = []
            for family in (SMALL[seed % len(SMALL)], SMALL[(seed * 5 + 1) % len(SMALL)]):
                houses.append((family, mirrors, books_of(family, mirrors, random, 0.6)))
            told = likeness.beside(*houses)
            self.assertTrue(is_house(told))
            first = len(houses[0][0])
            for house, by in zip(houses, (0, first)):
                for one, other in product(callers(house[0])[::2], repeat=2):
                    for sign in range(len(mirrors)):
                        moved = [kind + by if isinstance(kind, int) else tuple(part + by for part in kind)
                                 for kind in (one, other)]
                        for function in (meets, placed):
                            made = function(house, one, sign, other)
                            wanted = None if made is None else made + by
                            self.assertEqual(function(told, moved[0], sign, moved[1]), wanted)

    def test_the_ones_handed_in_stay(self):
        one, other = (PAIR, MIXED, {}), mixed_house()
        told = likeness.beside(other, one)
        self.assertEqual((one, other), ((PAIR, MIXED, {}), mixed_house()))
        told[2].clear()
        self.assertEqual(other[2], right_books())
        told = likeness.beside(one, other)
        one[2][0, 0, FIRST] = ((-1, 0),)
        self.assertNotIn((0, 0, FIRST), told[2])


class PrunedTest(unittest.TestCase):
    def check_house(self, house):
        wanted = pruned_by_the_words(house)
        told = likeness.pruned(house)
        self.assertEqual(told, wanted, house)
        self.assertIsNone(likeness.tell_tale(house, told))
        self.assertIsNone(likeness.tale_to_come(house, told))
        self.assertEqual(likeness.pruned(told), told)
        return len(house[2]) - len(told[2])

    def test_small(self):
        # Giving up and handing on to nobody make nothing.
        house = (PAIR, SIDED, {(0, 0, FIRST): ((-1, -1),), (1, 0, FIRST): ((-1, 1),), (1, 0, SECOND): ((0, -2),)})
        self.assertEqual(likeness.pruned(house), (PAIR, SIDED, {(0, 0, FIRST): ((-1, -1),), (1, 0, FIRST): ((-1, 1),)}))
        # An heir that writes what its elder does.
        house = (((), (0,)), SIDED, {(0, 0, FIRST): ((-1, 0),), (1, 0, FIRST): ((-1, 0),)})
        self.assertEqual(likeness.pruned(house), (((), (0,)), SIDED, {(0, 0, FIRST): ((-1, 0),)}))
        self.assertEqual(likeness.pruned((((),), OWN, {})), (((),), OWN, {}))

    def test_the_greatest_first(self):
        # Either of the two can be left out, but not both.
        house = (PAIR, OWN, {(0, 0, FIRST): ((0, 0), (1, 1)), (1, 0, FIRST): ((0, 1), (1, 1))})
        self.check_house(house)
        house = (((),), SIDED, {(0, 0, FIRST): ((0, 0),), (0, 0, PLACE): ((0, 0),), (0, 0, SECOND): ((0, 0),)})
        self.assertEqual(likeness.pruned(house)[2], {(0, 0, FIRST): ((0, 0),)})
        self.check_house(house)

    def test_again_from_the_greatest(self):
        # Houses with a writing that can be left out only behind a lesser one.
        for seed in (74, 181, 262):
            house = small_house(seed)
            left = dict(house[2])
            for page in sorted(house[2], reverse=True):
                shorter = with_books(house, {key: left[key] for key in left if key != page})
                if likeness.tell_tale(house, shorter) is None and likeness.tale_to_come(house, shorter) is None:
                    del left[page]
            self.assertNotEqual(likeness.pruned(house)[2], left)
            self.check_house(house)

    def test_small_houses(self):
        gone = 0
        for seed in range(24):
            gone += self.check_house(small_house(seed))
        self.assertGreater(gone, 60)

    def test_too_many(self):
        for many in range(1, 7):
            house = (((),) * many, SIDED, {(0, 0, FIRST): ((-1, -1),)})
            if many <= 3:
                self.assertEqual(likeness.pruned(house)[0], ((),) * many)
            else:
                with self.assertRaises(TooMany) as caught:
                    likeness.pruned(house)
                self.assertEqual((caught.exception.many, caught.exception.most), (many, 3))

    def test_new_books(self):
        for books in ({}, {(0, 0, FIRST): ((-1, 0),)}, {(0, 0, FIRST): ((-1, 0),), (0, 0, PLACE): ((-1, -1),)}):
            house = (((),), SIDED, books)
            before = dict(books)
            told = likeness.pruned(house)
            self.assertIsNot(told[2], books)
            told[2][0, 0, SECOND] = None
            self.assertEqual(books, before)
            self.assertNotIn((0, 0, SECOND), likeness.pruned(house)[2])


class OwnerTest(unittest.TestCase):
    def test_houses_as_they_are_at_the_call(self):
        one, other = mixed_house(), mixed_house()
        self.assertIsNone(likeness.tell_tale(one, other))
        del other[2][0, 0, FIRST]
        self.assertEqual(likeness.tell_tale(one, other), (0, 0, 0))
        self.assertEqual(likeness.tale_to_come(one, other), (0, 0))
        del one[2][0, 0, FIRST]
        self.assertIsNone(likeness.tell_tale(one, other))
        one[2][0, 0, FIRST] = ()
        self.assertRaises(NoHouse, likeness.tell_tale, other, one)
        self.assertRaises(NoHouse, likeness.idle_cases, one)


if __name__ == "__main__":
    unittest.main()

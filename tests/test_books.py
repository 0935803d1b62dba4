"""Mirrors, houses, the writing that is found, and the case that takes (2.1 to 2.4)."""

import copy
import inspect
import unittest
from itertools import product

from dealclerks import books
from dealclerks.errors import NoHouse, NoSide
from dealclerks.lines import callers, line_of
from tests.houses import (
    DIAMOND, FIRST, MIRRORS, MIXED, NO_MIRRORS, NO_WRITINGS, PLACE, SECOND, WRITING, mixed_house, no_houses, pages, right_books,
    some_house)
from tests.refusals import check_no_house, check_order, check_second
from tests.samples import DEEP, LINED, PLAIN, UNLINED, WHATEVER

WORDS = {"found": ["caller", "sign", "side"], "takes": ["kind", "sign", "side", "caller"]}


class InterfaceTest(unittest.TestCase):
    def test_names_of_arguments(self):
        wanted = {
            "is_mirrors": ["thing"], "is_house": ["thing"], "found": ["house", "caller", "sign", "side"],
            "takes": ["house", "kind", "sign", "side", "caller"],
        }
        for name, arguments in wanted.items():
            self.assertEqual(list(inspect.signature(getattr(books, name)).parameters), arguments)

    def test_calls_by_names(self):
        house = mixed_house()
        self.assertIs(books.is_mirrors(thing=MIXED), True)
        self.assertIs(books.is_mirrors(thing=(1,)), False)
        self.assertIs(books.is_house(thing=house), True)
        self.assertIs(books.is_house(thing=house[:2]), False)
        self.assertEqual(books.found(side=FIRST, sign=0, caller=3, house=house), 1)
        self.assertEqual(books.found(house, 2, side=FIRST, sign=0), 0)
        self.assertEqual(books.takes(caller=2, side=FIRST, sign=0, kind=0, house=house), 2)
        self.assertEqual(books.takes(house, 0, 0, caller=(3,), side=FIRST), 0)


class MirrorsTest(unittest.TestCase):
    def test_mirrors(self):
        for mirrors in MIRRORS:
            self.assertIs(books.is_mirrors(mirrors), True, mirrors)

    def test_what_is_none(self):
        for thing in NO_MIRRORS:
            self.assertIs(books.is_mirrors(thing), False, thing)
        for mirrors in MIRRORS:
            self.assertIs(books.is_mirrors(list(mirrors)), False)

    def test_all_small_tuples(self):
        for many in range(1, 6):
            for thing in product(range(-2, many + 1), repeat=many):
                # Told the other way round than the program does: by pairs of signs.
                pairs = {(sign, mirror) for sign, mirror in enumerate(thing) if mirror != -1}
                within = all(0 <= mirror < many for sign, mirror in pairs)
                right = many <= 4 and within and pairs == {(mirror, sign) for sign, mirror in pairs}
                self.assertIs(books.is_mirrors(thing), right, thing)

    def test_what_is_handed_in_stays(self):
        for thing in NO_MIRRORS + MIRRORS:
            before = copy.deepcopy(thing)
            books.is_mirrors(thing)
            self.assertEqual(repr(thing), repr(before))


class HouseTest(unittest.TestCase):
    def test_houses_without_a_writing(self):
        for family in LINED:
            for mirrors in MIRRORS:
                self.assertIs(books.is_house((family, mirrors, {})), True)

    def test_houses_with_writings(self):
        self.assertIs(books.is_house(mixed_house()), True)
        for seed in range(300):
            self.assertIs(books.is_house(some_house(seed)), True, seed)

    def test_houses_full_of_writings(self):
        for family in LINED:
            last = len(family) - 1
            for mirrors in MIRRORS:
                writing = ((last, last), (-1, -2), (-1, -1), (0, 0), (last, -2), (-1, last))
                self.assertIs(books.is_house((family, mirrors, dict.fromkeys(pages(family, mirrors), writing))), True)

    def test_all_cases_near_the_edges(self):
        for many in range(1, 7):
            for other, what in product(range(-4, many + 3), repeat=2):
                house = (((),) * many, (-1,), {(many - 1, 0, SECOND): ((other, what),)})
                self.assertIs(books.is_house(house), -1 <= other < many and -2 <= what < many)

    def test_numbers_of_cases(self):
        for cases in range(10):
            house = (DIAMOND, MIXED, {(0, 0, FIRST): ((-1, -1),) * cases})
            self.assertIs(books.is_house(house), 1 <= cases <= 6)

    def test_all_pages_near_the_edges(self):
        for kind, sign, side in product(range(-2, 6), range(-3, 6), (FIRST, SECOND, PLACE, "third")):
            house = (DIAMOND, MIXED, {(kind, sign, side): WRITING})
            right = 0 <= kind < 4 and 0 <= sign < 4 and side != "third" and (side != SECOND or sign == 0)
            self.assertIs(books.is_house(house), right, (kind, sign, side))

    def test_what_is_none(self):
        for thing in no_houses() + WHATEVER:
            self.assertIs(books.is_house(thing), False, thing)

    def test_a_family_without_lines(self):
        for family, kind in UNLINED:
            self.assertIs(books.is_house((family, (-1,), {})), False)
            self.assertRaises(NoHouse, books.found, (family, (-1,), {}), 0, 0, FIRST)
            self.assertRaises(NoHouse, books.takes, (family, (-1,), {}), 0, 0, FIRST, 0)

    def test_one_wrong_writing_among_all(self):
        for page in pages(DIAMOND, MIXED):
            for wrong in ((), ((0, 4),), [(-1, -1)], None):
                house = (DIAMOND, MIXED, {**dict.fromkeys(pages(DIAMOND, MIXED), WRITING), page: wrong})
                self.assertIs(books.is_house(house), False)

    def test_what_is_handed_in_stays(self):
        for thing in no_houses() + [mixed_house()] + PLAIN + DEEP:
            before = copy.deepcopy(thing)
            books.is_house(thing)
            self.assertEqual(repr(thing), repr(before))


class RefusalsTest(unittest.TestCase):
    def test_no_house(self):
        for name, words in WORDS.items():
            check_no_house(self, getattr(books, name), words)

    def test_order_of_the_arguments(self):
        for name, words in WORDS.items():
            check_order(self, getattr(books, name), words)

    def test_second_of_a_sign_that_is_not_sided(self):
        for name, words in WORDS.items():
            check_second(self, getattr(books, name), words)
        for mirrors in MIRRORS:
            for sign, mirror in enumerate(mirrors):
                house = (((),), mirrors, {})
                if mirror == -1:
                    self.assertIsNone(books.found(house, 0, sign, SECOND))
                else:
                    self.assertRaises(NoSide, books.found, house, 0, sign, SECOND)


class FoundTest(unittest.TestCase):
    def test_by_the_line(self):
        house = mixed_house()
        self.assertEqual([books.found(house, kind, 0, FIRST) for kind in range(4)], [0, 1, 0, 1])
        self.assertEqual([books.found(house, kind, 0, SECOND) for kind in range(4)], [None, None, None, 3])
        self.assertEqual([books.found(house, kind, 1, FIRST) for kind in range(4)], [None, None, 2, 2])
        self.assertEqual([books.found(house, kind, 2, FIRST) for kind in range(4)], [0, 0, 0, 0])
        self.assertEqual([books.found(house, kind, 3, FIRST) for kind in range(4)], [None] * 4)
        self.assertEqual([books.found(house, kind, 3, PLACE) for kind in range(4)], [None, None, None, 3])

    def test_of_rows_of_elders(self):
        house = mixed_house()
        self.assertEqual(books.found(house, (0,), 0, FIRST), 0)
        self.assertEqual(books.found(house, (1, 2), 0, FIRST), 1)
        self.assertEqual(books.found(house, (2, 1), 0, FIRST), 1)
        self.assertEqual(books.found(house, (2,), 0, FIRST), 0)
        self.assertEqual(books.found(house, (1, 2), 1, FIRST), 2)
        self.assertEqual(books.found(house, (3,), 0, SECOND), 3)
        self.assertIsNone(books.found(house, (1, 2), 0, SECOND))

    def test_order_of_elders(self):
        house = (((), (), (0, 1), (1, 0)), (0,), {(0, 0, FIRST): WRITING, (1, 0, FIRST): WRITING})
        self.assertEqual([books.found(house, kind, 0, FIRST) for kind in range(4)], [0, 1, 0, 1])
        self.assertEqual(books.found(house, (0, 1), 0, FIRST), 0)
        self.assertEqual(books.found(house, (1, 0), 0, FIRST), 1)

    def test_by_what_is_promised(self):
        for seed in range(40):
            house = some_house(seed)
            family, mirrors, held = house
            for caller in callers(family)[::5]:
                for kind, sign, side in pages(family[:1], mirrors):
                    having = [kind for kind in line_of(family, caller) if (kind, sign, side) in held]
                    self.assertEqual(books.found(house, caller, sign, side), having[0] if having else None)


class TakesTest(unittest.TestCase):
    def test_the_first_that_takes(self):
        house = mixed_house()
        self.assertEqual([books.takes(house, 0, 0, FIRST, caller) for caller in range(4)], [2, 1, 2, 0])
        self.assertEqual([books.takes(house, 1, 0, FIRST, caller) for caller in range(4)], [1, 1, 1, 0])
        self.assertEqual([books.takes(house, 3, 3, PLACE, caller) for caller in range(4)], [-1, -1, -1, 0])
        self.assertEqual([books.takes(house, 0, 2, FIRST, caller) for caller in range(4)], [0, 0, 0, 0])

    def test_its_own_book_alone(self):
        house = mixed_house()
        self.assertIsNone(books.takes(house, 3, 0, FIRST, 0))
        self.assertIsNone(books.takes(house, 2, 0, FIRST, 3))
        self.assertIsNone(books.takes(house, 3, 3, FIRST, 3))
        self.assertIsNone(books.takes(house, 0, 0, SECOND, 0))

    def test_of_rows_of_elders(self):
        house = mixed_house()
        self.assertEqual(books.takes(house, 0, 0, FIRST, (3,)), 0)
        self.assertEqual(books.takes(house, 0, 0, FIRST, (1, 2)), 1)
        self.assertEqual(books.takes(house, 0, 0, FIRST, (2,)), 2)
        self.assertEqual(books.takes(house, 3, 3, PLACE, (2, 1)), -1)
        self.assertEqual(books.takes(house, 3, 3, PLACE, (3,)), 0)

    def test_each_place_of_a_writing(self):
        family = ((),) * 6
        house = (family, (0,), {(2, 0, FIRST): tuple((5 - kind, kind) for kind in range(6))})
        self.assertEqual([books.takes(house, 2, 0, FIRST, caller) for caller in range(6)], [5, 4, 3, 2, 1, 0])
        self.assertEqual(books.takes(house, 2, 0, FIRST, (0, 4)), 1)
        self.assertEqual(books.takes(house, 2, 0, FIRST, (4, 0)), 1)
        house = (family, (0,), {(2, 0, FIRST): tuple((kind, 0) for kind in (1, 1, 3, 3, -1, 0))})
        self.assertEqual([books.takes(house, 2, 0, FIRST, caller) for caller in range(6)], [4, 0, 4, 2, 4, 4])

    def test_by_what_is_promised(self):
        for seed in range(40):
            house = some_house(seed)
            family, mirrors, held = house
            for caller in callers(family)[::9]:
                told = line_of(family, caller)
                for page in pages(family, mirrors):
                    wanted = None
                    if page in held:
                        numbers = [at for at, case in enumerate(held[page]) if case[0] == -1 or case[0] in told]
                        wanted = min(numbers, default=-1)
                    self.assertEqual(books.takes(house, *page, caller), wanted)


class OwnerTest(unittest.TestCase):
    def test_books_as_they_are_at_the_call(self):
        held = right_books()
        one = (DIAMOND, MIXED, held)
        other = (((), (0,), (1,), (2,)), MIXED, held)
        for turn in range(3):
            self.assertEqual([books.found(house, 3, 0, FIRST) for house in (one, other)], [1, 1])
            self.assertEqual([books.takes(house, 1, 0, FIRST, 3) for house in (one, other)], [0, 0])
            del held[1, 0, FIRST]
            held[2, 0, FIRST] = ((-1, 0),)
            self.assertEqual([books.found(house, 3, 0, FIRST) for house in (one, other)], [2, 2])
            self.assertEqual([books.takes(house, 1, 0, FIRST, 3) for house in (one, other)], [None, None])
            self.assertEqual([books.takes(house, 2, 0, FIRST, 3) for house in (one, other)], [0, 0])
            held[2, 0, FIRST] = NO_WRITINGS[turn]
            for house in (one, other):
                self.assertIs(books.is_house(house), False)
                self.assertRaises(NoHouse, books.found, house, 3, 0, FIRST)
                self.assertRaises(NoHouse, books.takes, house, 2, 0, FIRST, 3)
            del held[2, 0, FIRST]
            held[1, 0, FIRST] = WRITING
            self.assertIs(books.is_house(one) and books.is_house(other), True)

    def test_what_is_handed_in_stays(self):
        house = mixed_house()
        for caller in (0, 3, (1, 2), (2, 1)):
            for kind, sign, side in pages(DIAMOND, MIXED):
                books.found(house, caller, sign, side)
                books.takes(house, kind, sign, side, caller)
        self.assertEqual(repr(house), repr(mixed_house()))


if __name__ == "__main__":
    unittest.main()

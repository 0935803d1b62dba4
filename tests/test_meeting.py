"""Two callers meet (4.1 to 4.6)."""

import inspect
import unittest
from itertools import product

from dealclerks import meeting
from dealclerks.asking import ask
from dealclerks.books import found
from dealclerks.errors import NoHouse, NoSign
from dealclerks.lines import callers, line_of
from tests.houses import (
    DIAMOND, FIRST, MIRRORS, MIXED, PLACE, SECOND, Wares, made_of, mixed_house, right_books, some_house)
from tests.refusals import check, check_no_house, check_order
from tests.samples import LINED

PAIR = ["caller", "sign", "caller"]
WORDS = {"back_first": PAIR, "asked": PAIR, "meets": PAIR, "in_place": PAIR, "placed": PAIR, "itself": ["caller", "sign"]}
SIDED, OWN, TURNED = (-1,), (0,), (1, 0)


def meetings(limit):
    """Of each of some houses and its signs: the house, the sign, and pairs of callers, spread over all of them."""
    for seed in range(78):
        house = some_house(seed)
        some = callers(house[0])
        pairs = list(product(some, repeat=2))
        pairs = pairs[::len(pairs) // limit + 1] + list(product(range(len(house[0])), repeat=2))
        pairs += [(caller, caller) for caller in some[::3]]
        for sign in range(len(house[1])):
            yield house, sign, pairs


class InterfaceTest(unittest.TestCase):
    def test_names_of_arguments(self):
        pair = ["house", "one", "sign", "other"]
        wanted = {
            "back_first": pair, "asked": pair, "meets": pair, "in_place": pair, "placed": pair,
            "itself": ["house", "one", "sign"], "crossed": ["house", "sign"],
        }
        for name, arguments in wanted.items():
            self.assertEqual(list(inspect.signature(getattr(meeting, name)).parameters), arguments)

    def test_calls_by_names(self):
        house = mixed_house()
        self.assertIs(meeting.back_first(other=3, sign=0, one=0, house=house), True)
        self.assertEqual(meeting.asked(other=3, sign=0, one=0, house=house), [(1, ((3, 0),), 3)])
        self.assertEqual(meeting.meets(house, other=3, sign=0, one=0), 3)
        self.assertEqual(meeting.itself(sign=0, one=0, house=house), 0)
        self.assertEqual(meeting.in_place(other=3, sign=3, one=3, house=house), [(2, ((3, 0),), 3)])
        self.assertEqual(meeting.placed(house, 3, other=3, sign=3), 3)
        self.assertEqual(meeting.crossed(sign=1, house=house), [])


class RefusalsTest(unittest.TestCase):
    def test_no_house(self):
        for name, words in {**WORDS, "crossed": ["sign"]}.items():
            check_no_house(self, getattr(meeting, name), words)

    def test_order_of_the_arguments(self):
        for name, words in WORDS.items():
            check_order(self, getattr(meeting, name), words)

    def test_signs_of_crossed(self):
        check_order(self, meeting.crossed, ["sign"])
        for mirrors in MIRRORS:
            for sign, mirror in enumerate(mirrors):
                house = (DIAMOND, mirrors, {})
                if mirror == -1:
                    check(self, NoSign, meeting.crossed, [house, sign])
                else:
                    self.assertEqual(meeting.crossed(house, sign), [])


class BackFirstTest(unittest.TestCase):
    def test_an_heir_with_a_writing_of_its_own(self):
        house = (((), (0,), (1,)), SIDED, {(1, 0, SECOND): ((-1, 1),)})
        self.assertIs(meeting.back_first(house, 0, 0, 1), True)
        self.assertIs(meeting.back_first(house, 0, 0, 2), True)
        self.assertIs(meeting.back_first(house, 0, 0, (1,)), True)
        self.assertIs(meeting.back_first(house, 0, 0, (2,)), True)
        # Kind 1 comes of kind 1, by whose book kind 2 would answer.
        self.assertIs(meeting.back_first(house, 1, 0, 2), False)
        self.assertIs(meeting.back_first(house, 1, 0, (2,)), False)

    def test_no_writing_for_the_back_asking(self):
        house = (((), (0,), (1,)), SIDED, {(1, 0, FIRST): ((-1, 1),), (2, 0, PLACE): ((-1, 1),)})
        for one, other in product(callers(house[0]), repeat=2):
            self.assertIs(meeting.back_first(house, one, 0, other), False)

    def test_one_that_does_not_come_of_the_other(self):
        house = (((), (0,), (0,), (1, 2)), SIDED, {(kind, 0, SECOND): ((-1, kind),) for kind in range(4)})
        self.assertIs(meeting.back_first(house, 1, 0, 2), False)
        self.assertIs(meeting.back_first(house, 3, 0, 0), False)
        self.assertIs(meeting.back_first(house, 1, 0, (2,)), False)
        self.assertIs(meeting.back_first(house, 1, 0, 3), True)
        self.assertIs(meeting.back_first(house, 2, 0, 3), True)
        self.assertIs(meeting.back_first(house, 2, 0, (2, 1)), False)
        self.assertIs(meeting.back_first(house, 2, 0, (1, 2)), True)

    def test_never_of_one_kind_nor_ahead_of_a_row_of_elders(self):
        house = (((), (0,), (0,), (1, 2)), SIDED, {(kind, 0, SECOND): ((-1, kind),) for kind in range(4)})
        for kind in range(4):
            self.assertIs(meeting.back_first(house, kind, 0, kind), False)
        for row in callers(house[0])[4:]:
            for other in callers(house[0]):
                self.assertIs(meeting.back_first(house, row, 0, other), False)

    def test_a_writing_of_another_elder(self):
        # Kind 2 comes of 0 and 1; what it has for the back asking is of 1, of which 0 doesn't come.
        house = (((), (), (0, 1)), SIDED, {(1, 0, SECOND): ((-1, 1),)})
        self.assertIs(meeting.back_first(house, 0, 0, 2), True)
        self.assertIs(meeting.back_first(house, 1, 0, 2), False)
        self.assertIs(meeting.back_first(house, 0, 0, (0, 1)), True)
        self.assertIs(meeting.back_first(house, 1, 0, (1, 0)), False)

    def test_by_the_mirror(self):
        house = (((), (0,)), TURNED, {(1, 1, FIRST): ((-1, 1),)})
        self.assertIs(meeting.back_first(house, 0, 0, 1), True)
        self.assertIs(meeting.back_first(house, 0, 1, 1), False)
        house = (((), (0,)), OWN, {(1, 0, FIRST): ((-1, 1),)})
        self.assertIs(meeting.back_first(house, 0, 0, 1), True)
        house = (((), (0,)), OWN, {(0, 0, FIRST): ((-1, 1),)})
        self.assertIs(meeting.back_first(house, 0, 0, 1), False)

    def test_by_what_is_promised(self):
        for house, sign, pairs in meetings(15):
            family, mirrors, held = house
            back = (sign, SECOND) if mirrors[sign] == -1 else (mirrors[sign], FIRST)
            for one, other in pairs:
                writer = found(house, other, *back)
                ahead = one in range(len(family)) and other != one and one in line_of(family, other)
                ahead = ahead and writer is not None and writer not in line_of(family, one)
                self.assertIs(meeting.back_first(house, one, sign, other), ahead)


class AskedTest(unittest.TestCase):
    def test_fore_alone(self):
        house = (((), ()), SIDED, {(0, 0, FIRST): ((-1, 1),), (1, 0, SECOND): ((-1, 0),)})
        self.assertEqual(meeting.asked(house, 0, 0, 1), [(0, ((0, 0),), 1)])
        self.assertEqual(meeting.meets(house, 0, 0, 1), 1)

    def test_fore_and_back(self):
        house = (((), ()), SIDED, {(0, 0, FIRST): ((-1, -1),), (1, 0, SECOND): ((1, 1), (-1, 0))})
        self.assertEqual(meeting.asked(house, 0, 0, 1), [(0, ((0, 0),), -1), (1, ((1, 1),), 0)])
        self.assertEqual(meeting.meets(house, 0, 0, 1), 0)
        self.assertEqual(meeting.asked(house, 1, 0, 0), [(0, (), -1), (1, (), -1)])
        self.assertIsNone(meeting.meets(house, 1, 0, 0))

    def test_back_first_that_makes_and_that_gives_up(self):
        held = {(0, 0, FIRST): ((-1, 0),), (1, 0, SECOND): ((-1, 1),)}
        self.assertEqual(meeting.asked((((), (0,)), SIDED, held), 0, 0, 1), [(1, ((1, 0),), 1)])
        held[1, 0, SECOND] = ((1, 1),)
        self.assertEqual(meeting.asked((((), (0,)), SIDED, held), 0, 0, 1), [(1, ((1, -1),), -1), (0, ((0, 0),), 0)])
        held[0, 0, FIRST] = ((0, -1),)
        self.assertEqual(meeting.asked((((), (0,)), SIDED, held), 0, 0, 1), [(1, ((1, -1),), -1), (0, ((0, 0),), -1)])
        self.assertIsNone(meeting.meets((((), (0,)), SIDED, held), 0, 0, 1))

    def test_the_same_kind_twice(self):
        for mirrors, side in ((SIDED, SECOND), (OWN, FIRST)):
            house = (((), (0,)), mirrors, {(1, 0, side): ((-1, 1),)})
            told = [(0, (), -1)] if mirrors == SIDED else [(0, ((1, 0),), 1)]
            self.assertEqual(meeting.asked(house, 1, 0, 1), told)
        house = (((),), TURNED, {(0, 1, FIRST): ((-1, 0),)})
        self.assertEqual(meeting.asked(house, 0, 0, 0), [(0, (), -1)])
        self.assertIsNone(meeting.meets(house, 0, 0, 0))
        self.assertEqual(meeting.asked(house, 0, 1, 0), [(0, ((0, 0),), 0)])

    def test_the_same_row_twice_is_two_kinds(self):
        house = (((),), SIDED, {(0, 0, SECOND): ((-1, 0),)})
        self.assertEqual(meeting.asked(house, (0,), 0, (0,)), [(0, (), -1), (1, ((0, 0),), 0)])
        self.assertEqual(meeting.meets(house, (0,), 0, (0,)), 0)
        self.assertIsNone(meeting.itself(house, (0,), 0))
        self.assertIsNone(meeting.meets(house, 0, 0, 0))

    def test_a_sign_with_another_mirror(self):
        house = (((), ()), TURNED, {(0, 0, FIRST): ((0, 0),), (1, 1, FIRST): ((0, 1),)})
        self.assertEqual(meeting.asked(house, 0, 0, 1), [(0, ((0, -1),), -1), (1, ((1, 0),), 1)])
        self.assertEqual(meeting.asked(house, 1, 1, 0), [(0, ((1, 0),), 1)])
        self.assertEqual(meeting.asked(house, 0, 1, 1), [(0, (), -1), (1, (), -1)])

    def test_a_sign_that_is_its_own_mirror(self):
        house = (((), ()), OWN, {(0, 0, FIRST): ((0, 0),), (1, 0, FIRST): ((0, 1),)})
        self.assertEqual(meeting.asked(house, 0, 0, 1), [(0, ((0, -1),), -1), (1, ((1, 0),), 1)])
        self.assertEqual(meeting.asked(house, 1, 0, 0), [(0, ((1, 0),), 1)])

    def test_as_python_meets(self):
        ahead = 0
        for house, sign, pairs in meetings(40):
            wares = Wares(house, sign)
            for one, other in pairs:
                wanted = wares.asked(one, other)
                self.assertEqual(meeting.asked(house, one, sign, other), wanted, (house, one, sign, other))
                self.assertEqual(meeting.meets(house, one, sign, other), made_of(wanted))
                self.assertIs(meeting.back_first(house, one, sign, other), wanted[0][0] == 1)
                ahead += wanted[0][0] == 1
        self.assertGreater(ahead, 100)

    def test_all_callers_of_small_families(self):
        for seed in range(1000, 1060):
            mirrors, held = some_house(seed)[1:]
            for family in LINED[:4]:
                many = len(family)
                fitting = {page: writing for page, writing in held.items() if page[0] < many
                           and all(max(case) < many for case in writing)}
                house = (family, mirrors, fitting)
                wares = Wares(house, 0)
                for one, other in product(callers(family), repeat=2):
                    self.assertEqual(meeting.asked(house, one, 0, other), wares.asked(one, other))


class ItselfTest(unittest.TestCase):
    def test_fore_alone(self):
        house = mixed_house()
        self.assertEqual([meeting.itself(house, kind, 0) for kind in range(4)], [0, None, 0, 1])
        self.assertEqual([meeting.itself(house, kind, 1) for kind in range(4)], [None] * 4)
        self.assertEqual(meeting.itself(house, (0,), 0), 0)
        self.assertEqual(meeting.itself(house, (3,), 0), 1)
        self.assertIsNone(meeting.itself(house, (1, 2), 0))

    def test_not_in_place_nor_back(self):
        house = (((),), SIDED, {(0, 0, SECOND): ((-1, 0),), (0, 0, PLACE): ((-1, 0),)})
        self.assertIsNone(meeting.itself(house, 0, 0))
        self.assertIsNone(meeting.itself(house, (0,), 0))

    def test_as_python_meets(self):
        for house, sign, pairs in meetings(5):
            wares = Wares(house, sign)
            for caller in callers(house[0])[::2]:
                self.assertEqual(meeting.itself(house, caller, sign), made_of(wares.itself(caller)))
            for kind in range(len(house[0])):
                self.assertEqual(meeting.itself(house, kind, sign), meeting.meets(house, kind, sign, kind))


class InPlaceTest(unittest.TestCase):
    def test_made_in_place(self):
        house = (((), (0,)), SIDED, {(0, 0, PLACE): ((-1, 0),), (1, 0, SECOND): ((-1, 1),)})
        self.assertEqual(meeting.in_place(house, 0, 0, 1), [(2, ((0, 0),), 0)])
        self.assertEqual(meeting.placed(house, 0, 0, 1), 0)
        self.assertEqual(meeting.in_place(house, 0, 0, 0), [(2, ((0, 0),), 0)])
        self.assertEqual(meeting.placed(house, (1,), 0, (0,)), 0)

    def test_the_meeting_follows(self):
        house = (((), (0,)), SIDED, {(0, 0, PLACE): ((0, -1), (1, 0)), (1, 0, SECOND): ((-1, 1),), (0, 0, FIRST): ((1, 0),)})
        self.assertEqual(meeting.in_place(house, 0, 0, 1), [(2, ((0, 0),), -1), (1, ((1, 0),), 1)])
        self.assertEqual(meeting.placed(house, 0, 0, 1), 1)
        self.assertEqual(meeting.in_place(house, 0, 0, 0), [(2, ((0, 0),), -1), (0, ((0, -1),), -1)])
        self.assertIsNone(meeting.placed(house, 0, 0, 0))
        self.assertEqual(meeting.in_place((((),), OWN, {}), 0, 0, (0,)), [(2, (), -1), (0, (), -1), (1, (), -1)])
        self.assertIsNone(meeting.placed((((),), OWN, {}), 0, 0, (0,)))

    def test_the_same_row_twice_is_two_kinds(self):
        house = (((),), SIDED, {(0, 0, SECOND): ((-1, 0),)})
        self.assertEqual(meeting.in_place(house, (0,), 0, (0,)), [(2, (), -1), (0, (), -1), (1, ((0, 0),), 0)])
        self.assertEqual(meeting.placed(house, (0,), 0, (0,)), 0)
        self.assertEqual(meeting.in_place(house, 0, 0, 0), [(2, (), -1), (0, (), -1)])

    def test_the_mirror_counts_for_the_meeting_alone(self):
        house = (((), ()), TURNED, {(0, 1, PLACE): ((-1, 0),), (1, 0, PLACE): ((-1, 0),), (1, 1, FIRST): ((-1, 1),)})
        self.assertEqual(meeting.in_place(house, 0, 0, 1), [(2, (), -1), (0, (), -1), (1, ((1, 0),), 1)])
        self.assertEqual(meeting.in_place(house, 0, 1, 1), [(2, ((0, 0),), 0)])

    def test_as_python_meets(self):
        for house, sign, pairs in meetings(15):
            wares = Wares(house, sign)
            for one, other in pairs:
                wanted = wares.in_place(one, other)
                self.assertEqual(meeting.in_place(house, one, sign, other), wanted, (house, one, sign, other))
                self.assertEqual(meeting.placed(house, one, sign, other), made_of(wanted))


class CrossedTest(unittest.TestCase):
    def test_its_own_mirror(self):
        # Each makes itself, so the order of the two shows.
        house = (((), (), ()), OWN, {(kind, 0, FIRST): ((-1, kind),) for kind in range(2)})
        self.assertEqual(meeting.crossed(house, 0), [(0, 1), (1, 0)])

    def test_an_heir_goes_ahead_both_times(self):
        house = (((), (0,)), OWN, {(kind, 0, FIRST): ((-1, kind),) for kind in range(2)})
        self.assertEqual(meeting.crossed(house, 0), [])

    def test_another_mirror(self):
        house = (((), ()), TURNED, {(0, 0, FIRST): ((-1, 0),), (1, 1, FIRST): ((-1, 1),)})
        self.assertEqual(meeting.crossed(house, 0), [(0, 1)])
        self.assertEqual(meeting.crossed(house, 1), [(1, 0)])

    def test_nobody_on_one_side_is_nobody_on_the_other(self):
        house = (((), ()), OWN, {(0, 0, FIRST): ((0, 0),)})
        self.assertEqual(meeting.crossed(house, 0), [])

    def test_not_of_a_kind_and_itself(self):
        house = (((), ()), TURNED, {(0, 0, FIRST): ((-1, 0),), (0, 1, FIRST): ((-1, 1),)})
        self.assertEqual(meeting.crossed(house, 0), [])
        self.assertNotEqual(meeting.meets(house, 0, 0, 0), meeting.meets(house, 0, 1, 0))

    def test_rising(self):
        house = (((),) * 6, OWN, {(kind, 0, FIRST): ((-1, kind),) for kind in range(6)})
        wanted = [(one, other) for one in range(6) for other in range(6) if one != other]
        self.assertEqual(meeting.crossed(house, 0), wanted)

    def test_as_python_meets(self):
        many = 0
        for seed in range(300):
            house = some_house(seed)
            sign = seed % len(house[1])
            mirror = house[1][sign]
            if mirror != -1:
                there, back = Wares(house, sign), Wares(house, mirror)
                wanted = [(one, other) for one, other in product(range(len(house[0])), repeat=2) if one != other
                          and made_of(there.asked(one, other)) != made_of(back.asked(other, one))]
                self.assertEqual(meeting.crossed(house, sign), wanted)
                many += len(wanted)
                for one, other in wanted:
                    fore = ask(house, one, sign, FIRST, other)[1]
                    behind = ask(house, other, mirror, FIRST, one)[1]
                    self.assertEqual((fore == -1, behind == -1, fore == behind), (False, False, False))
        self.assertGreater(many, 50)


class OwnListsTest(unittest.TestCase):
    def test_new_lists_each_time(self):
        house = (((), (), ()), OWN, {(kind, 0, FIRST): ((-1, kind),) for kind in range(2)})
        for function, arguments in ((meeting.asked, (0, 0, 1)), (meeting.in_place, (2, 0, 1)), (meeting.crossed, (0,))):
            told = function(house, *arguments)
            before = list(told)
            self.assertIs(type(told), list)
            self.assertIsNot(function(house, *arguments), told)
            told.append(None)
            told[0] = None
            self.assertEqual(function(house, *arguments), before)
            told.clear()
            self.assertEqual(function(house, *arguments), before)

    def test_tuples_within(self):
        for told in (meeting.asked(mixed_house(), 1, 0, 0), meeting.in_place(mixed_house(), 1, 0, 0)):
            for asking in told:
                self.assertIs(type(asking), tuple)
                self.assertEqual([type(part) for part in asking], [int, tuple, int])
                self.assertEqual({type(step) for step in asking[1]} | {tuple}, {tuple})

    def test_what_is_handed_in_stays(self):
        house = mixed_house()
        for one, sign, other in product((0, 3, (1, 2)), range(4), (0, 1, (3,))):
            for name in WORDS:
                if name != "itself":
                    getattr(meeting, name)(house, one, sign, other)
            meeting.itself(house, one, sign)
        meeting.crossed(house, 3)
        self.assertEqual(repr(house), repr(mixed_house()))


class OwnerTest(unittest.TestCase):
    def test_books_as_they_are_at_the_call(self):
        held = right_books()
        houses = [(DIAMOND, MIXED, held), (((), (0,), (1,), (2,)), MIXED, held)]
        for turn in range(3):
            self.assertEqual([meeting.asked(house, 0, 0, 3) for house in houses], [[(1, ((3, 0),), 3)]] * 2)
            del held[3, 0, SECOND]
            self.assertEqual([meeting.back_first(house, 0, 0, 3) for house in houses], [False] * 2)
            self.assertEqual([meeting.asked(house, 0, 0, 3) for house in houses], [[(0, ((0, 0),), 2)]] * 2)
            held[0, 0, PLACE] = ((-1, 1),)
            self.assertEqual([meeting.placed(house, 0, 0, 3) for house in houses], [1] * 2)
            held[0, 3, FIRST] = ((1, 0),)
            held[1, 3, FIRST] = ((0, 1),)
            self.assertEqual([meeting.crossed(house, 3) for house in houses], [[(1, 2), (2, 1)], []])
            held[2, 3, FIRST] = ((3, 0), (1, 2))
            self.assertEqual([meeting.meets(house, 2, 3, 1) for house in houses], [2] * 2)
            held[0, 3, FIRST] = ((1, -3),)
            for house in houses:
                self.assertRaises(NoHouse, meeting.meets, house, 0, 0, 3)
                self.assertRaises(NoHouse, meeting.crossed, house, 3)
                self.assertRaises(NoHouse, meeting.itself, house, 0, 0)
            held.clear()
            held.update(right_books())


if __name__ == "__main__":
    unittest.main()

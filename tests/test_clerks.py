"""Books that change, and what is kept of meetings (6.1, 6.2)."""

import inspect
import unittest
from itertools import permutations, product
from random import Random

from dealclerks.books import is_house
from dealclerks.clerks import Clerks
from dealclerks.errors import (
    DealError, Missing, NoDeed, NoElders, NoKind, NoLine, NoSide, NoSign, NoWriting, TooMany)
from dealclerks.meeting import meets
from tests.houses import (
    DIAMOND, FIRST, MIXED, PLACE, SECOND, Wares, made_of, mixed_house, pages, right_books, some_house, some_writing)
from tests.refusals import RIGHT, WRONG, check, check_no_house, check_order, check_second, few
from tests.samples import LINED, Oracle

SIDED = (-1,)
EMPTY = (((),), SIDED, {})
ARGUMENTS = {
    "house": [], "kind": ["elders"], "write": ["kind", "sign", "side", "writing"], "strike": ["kind", "sign", "side"],
    "back": [], "meet": ["one", "sign", "other"], "kept": [], "reckoned": [],
}


def triples(kinds, signs):
    """The rising list of all (one, sign, other) of so many kinds and signs."""
    return list(product(range(kinds), range(signs), range(kinds)))


def copy_of(house):
    return house[0], house[1], dict(house[2])


def all_asked(house):
    """What Python's own operators ask, by (one, sign, other)."""
    found = {}
    for sign in range(len(house[1])):
        wares = Wares(house, sign)
        for one, other in product(range(len(house[0])), repeat=2):
            found[one, sign, other] = wares.asked(one, other)
    return found


class Model:
    """Clerks by the words of 6.1 and 6.2: each house that was is held whole, with all its askings."""

    def __init__(self, house):
        self.houses = [copy_of(house)]
        self.askings = [all_asked(house)]
        self.held = set()
        self.many = 0

    def now(self):
        return self.houses[-1]

    def become(self, house):
        self.houses.append(house)
        self.askings.append(all_asked(house))
        return self.spoiled(*self.askings[-2:])

    def spoiled(self, ahead, behind):
        found = sorted(meeting for meeting in ahead if meeting in behind and ahead[meeting] != behind[meeting])
        self.held = {meeting for meeting in self.held if meeting in behind and meeting not in found}
        return found

    def kind(self, elders):
        family, mirrors, books = self.now()
        self.become(((*family, elders), mirrors, books))
        return len(family)

    def write(self, page, writing):
        family, mirrors, books = self.now()
        return self.become((family, mirrors, {**books, page: writing}))

    def strike(self, page):
        family, mirrors, books = self.now()
        return self.become((family, mirrors, {key: books[key] for key in books if key != page}))

    def back(self):
        self.houses.pop()
        return self.spoiled(self.askings.pop(), self.askings[-1])

    def meet(self, one, sign, other):
        if (one, sign, other) not in self.held:
            self.held.add((one, sign, other))
            self.many += 1
        return made_of(self.askings[-1][one, sign, other])


class ClerksTest(unittest.TestCase):
    def check_field(self, refusal, fields, function, *arguments):
        with self.assertRaises(refusal) as caught:
            function(*arguments)
        self.assertIs(type(caught.exception), refusal)
        self.assertEqual(vars(caught.exception), fields)

    def check_as(self, clerks, model):
        self.assertEqual(clerks.house(), model.now())
        self.assertEqual(clerks.kept(), sorted(model.held))
        self.assertEqual(clerks.reckoned(), model.many)


class InterfaceTest(unittest.TestCase):
    def test_names_of_arguments(self):
        self.assertEqual(list(inspect.signature(Clerks).parameters), ["house"])
        for name, arguments in ARGUMENTS.items():
            self.assertIn(name, vars(Clerks))
            self.assertEqual(list(inspect.signature(getattr(Clerks, name)).parameters), ["self", *arguments])

    def test_calls_by_names(self):
        clerks = Clerks(house=(((), ()), SIDED, {}))
        self.assertEqual(clerks.kind(elders=(1, 0)), 2)
        told = clerks.write(writing=((-1, 1),), side=FIRST, sign=0, kind=2)
        self.assertEqual(told, [(2, 0, 0), (2, 0, 1), (2, 0, 2)])
        self.assertEqual(clerks.meet(other=0, sign=0, one=2), 1)
        self.assertEqual(clerks.strike(side=FIRST, sign=0, kind=2), told)
        self.assertEqual(clerks.house(), (((), (), (1, 0)), SIDED, {}))


class RefusalsTest(ClerksTest):
    def test_no_house(self):
        check_no_house(self, Clerks, [])

    def test_order_of_the_arguments(self):
        def write(house, *arguments):
            return Clerks(house).write(*arguments)

        def strike(house, *arguments):
            return Clerks(house).strike(*arguments)

        def meet(house, *arguments):
            return Clerks(house).meet(*arguments)

        def kind(house, elders):
            return Clerks(house).kind(elders)

        check_order(self, write, ["kind", "sign", "side", "writing"])
        check_order(self, strike, ["kind", "sign", "side"])
        check_order(self, meet, ["kind", "sign", "kind"])
        check_order(self, kind, ["elders"])
        check_second(self, write, ["kind", "sign", "side", "writing"])
        for sign in (1, 2, 3):
            check(self, NoSide, strike, [mixed_house(), 0, sign, SECOND])

    def test_missing_behind_all_else(self):
        clerks = Clerks(mixed_house())
        for page in pages(DIAMOND, MIXED):
            if page not in right_books():
                check(self, Missing, clerks.strike, page)
        self.assertEqual(Clerks(mixed_house()).strike(3, 3, PLACE), [])
        self.assertRaises(NoKind, clerks.strike, 4, 0, FIRST)
        self.assertRaises(NoSign, clerks.strike, 2, 4, FIRST)
        self.assertRaises(NoSide, clerks.strike, 2, 1, SECOND)

    def test_wrong_elders_of_each_house(self):
        for family in LINED:
            clerks = Clerks((family, SIDED, {}))
            many = len(family)
            for elders in ((many,), (many + 1,), (-1,), (0, 0), (0, many), (True,), (False,), [], [0], None, 0, ((),), {}):
                check(self, NoElders, clerks.kind, [elders])
            self.assertEqual(clerks.house(), (family, SIDED, {}))

    def test_no_elders_then_too_many_then_no_line(self):
        full = Clerks((((),) * 6, SIDED, {}))
        for elders in ((), (0,), (5, 4, 3, 2, 1, 0), (0, 1)):
            self.check_field(TooMany, {"many": 7, "most": 6}, full.kind, elders)
        for elders in (None, True, 0, "", "0", [], [0], {}, (6,), (-1,), (0, 0), (0, 6), (True,), (0, True), ((),), ((0,),)):
            check(self, NoElders, full.kind, [elders])
        # Without a line, but there are six already.
        chain = Clerks((((), (0,), (1,), (2,), (3,), (4,)), SIDED, {}))
        self.check_field(TooMany, {"many": 7, "most": 6}, chain.kind, (0, 1))
        shorter = Clerks((((), (0,), (1,)), SIDED, {}))
        self.check_field(NoLine, {"at": 3}, shorter.kind, (0, 1))
        check(self, NoElders, shorter.kind, [(0, 1, 3)])
        self.assertEqual(shorter.house()[0], ((), (0,), (1,)))
        self.assertRaises(NoDeed, shorter.back)

    def test_what_is_refused_changes_nothing(self):
        clerks = Clerks(mixed_house())
        clerks.meet(0, 0, 3)
        clerks.write(3, 1, FIRST, ((-1, 3),))
        before = (clerks.house(), clerks.kept(), clerks.reckoned())
        for thing in few(WRONG["kind"], 20):
            self.assertRaises(NoKind, clerks.write, thing, 0, FIRST, ((-1, -1),))
            self.assertRaises(NoKind, clerks.strike, thing, 0, FIRST)
            self.assertRaises(NoKind, clerks.meet, thing, 0, 0)
            self.assertRaises(NoKind, clerks.meet, 0, 0, thing)
        for thing in few(WRONG["sign"], 20):
            self.assertRaises(NoSign, clerks.write, 0, thing, FIRST, ((-1, -1),))
            self.assertRaises(NoSign, clerks.meet, 0, thing, 0)
        for thing in few(WRONG["writing"], 40):
            self.assertRaises(NoWriting, clerks.write, 0, 0, FIRST, thing)
        for thing in few(WRONG["elders"], 40):
            self.assertRaises(NoElders, clerks.kind, thing)
        self.assertRaises(NoLine, clerks.kind, (0, 1))
        self.assertRaises(NoSide, clerks.write, 0, 1, SECOND, ((-1, -1),))
        self.assertRaises(Missing, clerks.strike, 2, 2, PLACE)
        self.assertEqual((clerks.house(), clerks.kept(), clerks.reckoned()), before)
        clerks.back()
        self.assertEqual(clerks.house(), mixed_house())
        self.assertRaises(NoDeed, clerks.back)


class HouseTest(ClerksTest):
    def test_at_first(self):
        for seed in range(40):
            house = some_house(seed)
            clerks = Clerks(house)
            self.assertEqual(clerks.house(), house)
            self.assertTrue(is_house(clerks.house()))
            self.assertIsNot(clerks.house()[2], house[2])
            self.assertEqual((clerks.kept(), clerks.reckoned()), ([], 0))
            self.assertRaises(NoDeed, clerks.back)

    def test_the_one_handed_in_changed_by_its_owner(self):
        house = mixed_house()
        clerks = Clerks(house)
        house[2].clear()
        self.assertEqual(clerks.house(), mixed_house())
        self.assertEqual(clerks.meet(0, 0, 3), 3)
        house[2][0, 0, FIRST] = "spoilt"
        clerks.write(0, 0, PLACE, ((-1, 2),))
        self.assertEqual(clerks.house()[2], {**right_books(), (0, 0, PLACE): ((-1, 2),)})
        self.assertEqual(house[2], {(0, 0, FIRST): "spoilt"})
        clerks.back()
        self.assertEqual(clerks.house(), mixed_house())

    def test_the_one_told_changed_by_its_owner(self):
        clerks = Clerks(mixed_house())
        told = clerks.house()
        told[2].clear()
        self.assertEqual(clerks.house(), mixed_house())
        told[2][5, 5, 5] = None
        clerks.write(1, 1, FIRST, ((-1, 1),))
        self.assertEqual(told[2], {(5, 5, 5): None})
        again = clerks.house()
        again[2][0, 0, FIRST] = ((-1, -1),)
        self.assertEqual(clerks.meet(0, 0, 0), 0)
        clerks.back()
        self.assertEqual(clerks.house(), mixed_house())
        self.assertEqual(again[2][1, 1, FIRST], ((-1, 1),))

    def test_what_was_told_is_handed_in_again(self):
        clerks = Clerks(mixed_house())
        clerks.kind((3,))
        clerks.write(4, 0, FIRST, ((4, 4),))
        other = Clerks(clerks.house())
        self.assertEqual(other.house(), clerks.house())
        self.assertRaises(NoDeed, other.back)
        other.strike(4, 0, FIRST)
        self.assertIn((4, 0, FIRST), clerks.house()[2])


class KindTest(ClerksTest):
    def test_up_to_six(self):
        clerks = Clerks(EMPTY)
        family = [()]
        for number, elders in enumerate(((), (0,), (1, 0), (2,), (4, 3)), 1):
            self.assertEqual(clerks.kind(elders), number)
            family.append(elders)
            self.assertEqual(clerks.house(), (tuple(family), SIDED, {}))
        self.check_field(TooMany, {"many": 7, "most": 6}, clerks.kind, ())
        for many in (5, 4, 3, 2, 1):
            self.assertEqual(clerks.back(), [])
            self.assertEqual(clerks.house()[0], tuple(family[:many]))
        self.assertRaises(NoDeed, clerks.back)

    def test_more_elders_than_a_row_has(self):
        clerks = Clerks((((),) * 5, SIDED, {}))
        self.assertEqual(clerks.kind((4, 2, 3, 0, 1)), 5)
        self.assertEqual(clerks.house()[0][5], (4, 2, 3, 0, 1))

    def test_elders_in_any_order(self):
        for family in LINED:
            if len(family) == 6:
                continue
            oracle = Oracle(family)
            for length in range(len(family) + 1):
                for elders in permutations(range(len(family)), length):
                    clerks = Clerks((family, SIDED, {}))
                    if oracle.under(elders) is None:
                        self.check_field(NoLine, {"at": len(family)}, clerks.kind, elders)
                        self.assertEqual(clerks.house()[0], family)
                    else:
                        self.assertEqual(clerks.kind(elders), len(family))
                        self.assertEqual(clerks.house()[0], (*family, elders))

    def test_nothing_is_spoiled_by_a_kind(self):
        clerks = Clerks(mixed_house())
        for one, sign, other in triples(4, 4):
            clerks.meet(one, sign, other)
        clerks.kind((3, 2))
        self.assertEqual(clerks.kept(), triples(4, 4))
        self.assertEqual(clerks.back(), [])
        self.assertEqual(clerks.kept(), triples(4, 4))


class WriteTest(ClerksTest):
    def test_at_all_places(self):
        for family, mirrors in ((DIAMOND, MIXED), (((), ()), (1, 0)), (((),), (-1, 1))):
            for page in pages(family, mirrors):
                for start in ({}, {page: ((-1, -2),)}, {page: ((0, 0),)}):
                    house = (family, mirrors, start)
                    clerks, model = Clerks(house), Model(house)
                    for writing in (((-1, 0),), ((0, -1), (-1, -2))):
                        self.assertEqual(clerks.write(*page, writing), model.write(page, writing))
                        self.check_as(clerks, model)
                    self.assertEqual(clerks.strike(*page), model.strike(page))
                    self.check_as(clerks, model)
                    for _ in range(3):
                        self.assertEqual(clerks.back(), model.back())
                        self.check_as(clerks, model)
                    self.assertRaises(NoDeed, clerks.back)

    def test_the_same_writing_again(self):
        clerks = Clerks(mixed_house())
        for page, writing in right_books().items():
            self.assertEqual(clerks.write(*page, writing), [])
        self.assertEqual(clerks.house(), mixed_house())
        for _ in right_books():
            self.assertEqual(clerks.back(), [])
        self.assertEqual(clerks.house(), mixed_house())
        self.assertRaises(NoDeed, clerks.back)

    def test_spoiled_though_the_same_is_made(self):
        # The case that takes is another one: asked tells something else, meets the same.
        clerks = Clerks((((), ()), SIDED, {(0, 0, FIRST): ((0, 1), (-1, 1))}))
        self.assertEqual(clerks.write(0, 0, FIRST, ((1, 1), (-1, 1))), [(0, 0, 0), (0, 0, 1)])
        # Where nobody answers it may be spoiled, too.
        clerks = Clerks((((), ()), SIDED, {}))
        self.assertEqual(clerks.write(0, 0, FIRST, ((-1, -1),)), [(0, 0, 0), (0, 0, 1)])

    def test_not_spoiled_though_another_writing_stands(self):
        clerks = Clerks((((), ()), SIDED, {(0, 0, FIRST): ((0, 1), (-1, 1))}))
        self.assertEqual(clerks.write(0, 0, FIRST, ((0, 1), (-1, 1), (1, 0))), [])
        self.assertEqual(clerks.write(0, 0, FIRST, ((0, 1), (1, 1))), [])
        self.assertEqual(clerks.write(0, 0, PLACE, ((-1, 1),)), [])
        # Asked only where the fore asking makes nothing.
        self.assertEqual(clerks.write(1, 0, SECOND, ((-1, 1),)), [])

    def test_mirrored_signs(self):
        clerks = Clerks((((), ()), (1, 0), {}))
        self.assertEqual(clerks.write(0, 0, FIRST, ((-1, 1),)), [(0, 0, 0), (0, 0, 1), (1, 1, 0)])
        clerks = Clerks((((), ()), (0,), {}))
        self.assertEqual(clerks.write(0, 0, FIRST, ((-1, 1),)), [(0, 0, 0), (0, 0, 1), (1, 0, 0)])
        clerks = Clerks((((), ()), SIDED, {}))
        self.assertEqual(clerks.write(0, 0, SECOND, ((-1, 1),)), [(1, 0, 0)])

    def test_an_heir_that_goes_ahead(self):
        clerks = Clerks((((), (0,)), SIDED, {(0, 0, FIRST): ((-1, 0),)}))
        self.assertEqual(clerks.write(1, 0, SECOND, ((-1, -1),)), [(0, 0, 1)])
        self.assertEqual(clerks.back(), [(0, 0, 1)])


class BackTest(ClerksTest):
    def test_each_sort_of_deed(self):
        clerks = Clerks((((), ()), SIDED, {(0, 0, FIRST): ((-1, 0),)}))
        start = clerks.house()
        clerks.kind((0,))
        self.assertEqual(clerks.back(), [])
        self.assertEqual(clerks.house(), start)
        clerks.write(1, 0, FIRST, ((-1, 1),))
        self.assertEqual(clerks.back(), [(1, 0, 0), (1, 0, 1)])
        self.assertEqual(clerks.house(), start)
        clerks.write(0, 0, FIRST, ((-1, 1),))
        self.assertEqual(clerks.back(), [(0, 0, 0), (0, 0, 1)])
        self.assertEqual(clerks.house(), start)
        clerks.strike(0, 0, FIRST)
        self.assertEqual(clerks.back(), [(0, 0, 0), (0, 0, 1)])
        self.assertEqual(clerks.house(), start)
        self.assertRaises(NoDeed, clerks.back)
        self.assertRaises(NoDeed, clerks.back)

    def test_two_deeds_to_one_place(self):
        clerks = Clerks(EMPTY)
        clerks.write(0, 0, FIRST, ((-1, 0),))
        clerks.write(0, 0, FIRST, ((-1, -1),))
        clerks.strike(0, 0, FIRST)
        clerks.write(0, 0, FIRST, ((0, 0),))
        held = []
        for _ in range(4):
            held.append(clerks.house()[2].get((0, 0, FIRST)))
            clerks.back()
        self.assertEqual(held, [((0, 0),), None, ((-1, -1),), ((-1, 0),)])
        self.assertEqual(clerks.house(), EMPTY)

    def test_what_was_undone_stands_no_more(self):
        clerks = Clerks(EMPTY)
        clerks.kind(())
        clerks.back()
        clerks.write(0, 0, FIRST, ((-1, 0),))
        clerks.back()
        self.assertRaises(NoDeed, clerks.back)
        self.assertEqual(clerks.house(), EMPTY)

    def test_meet_is_no_deed(self):
        clerks = Clerks(EMPTY)
        clerks.meet(0, 0, 0)
        self.assertRaises(NoDeed, clerks.back)
        self.assertEqual(clerks.kept(), [(0, 0, 0)])


class KeptTest(ClerksTest):
    def test_asked_again(self):
        clerks = Clerks(mixed_house())
        self.assertEqual(clerks.meet(0, 0, 3), 3)
        self.assertEqual((clerks.kept(), clerks.reckoned()), ([(0, 0, 3)], 1))
        self.assertEqual(clerks.meet(0, 0, 3), 3)
        self.assertEqual((clerks.kept(), clerks.reckoned()), ([(0, 0, 3)], 1))
        self.assertEqual(clerks.meet(0, 0, 0), 0)
        self.assertEqual((clerks.kept(), clerks.reckoned()), ([(0, 0, 0), (0, 0, 3)], 2))

    def test_none_is_kept_too(self):
        clerks = Clerks(EMPTY)
        for _ in range(3):
            self.assertIsNone(clerks.meet(0, 0, 0))
            self.assertEqual((clerks.kept(), clerks.reckoned()), ([(0, 0, 0)], 1))

    def test_spoiled_by_each_deed(self):
        clerks = Clerks((((), ()), SIDED, {}))
        for one, sign, other in triples(2, 1):
            clerks.meet(one, sign, other)
        self.assertEqual(clerks.write(0, 0, FIRST, ((1, 1),)), [(0, 0, 0), (0, 0, 1)])
        self.assertEqual((clerks.kept(), clerks.reckoned()), ([(1, 0, 0), (1, 0, 1)], 4))
        self.assertEqual(clerks.meet(0, 0, 1), 1)
        self.assertEqual(clerks.reckoned(), 5)
        self.assertEqual(clerks.strike(0, 0, FIRST), [(0, 0, 0), (0, 0, 1)])
        self.assertEqual(clerks.kept(), [(1, 0, 0), (1, 0, 1)])
        self.assertIsNone(clerks.meet(0, 0, 1))
        self.assertEqual(clerks.reckoned(), 6)
        self.assertEqual(clerks.back(), [(0, 0, 0), (0, 0, 1)])
        self.assertEqual(clerks.kept(), [(1, 0, 0), (1, 0, 1)])
        self.assertEqual(clerks.meet(0, 0, 1), 1)
        self.assertEqual(clerks.reckoned(), 7)
        self.assertIsNone(clerks.meet(1, 0, 0))
        self.assertEqual(clerks.reckoned(), 7)

    def test_what_was_spoiled_is_not_kept_again_by_back(self):
        clerks = Clerks((((), ()), SIDED, {(0, 0, FIRST): ((-1, 1),)}))
        clerks.meet(0, 0, 1)
        clerks.write(0, 0, FIRST, ((-1, 0),))
        self.assertEqual(clerks.kept(), [])
        clerks.back()
        self.assertEqual((clerks.kept(), clerks.reckoned()), ([], 1))
        self.assertEqual(clerks.meet(0, 0, 1), 1)
        self.assertEqual((clerks.kept(), clerks.reckoned()), ([(0, 0, 1)], 2))

    def test_a_kind_that_goes_and_comes_again(self):
        clerks = Clerks((((),), SIDED, {(0, 0, FIRST): ((-1, 0),)}))
        clerks.kind((0,))
        for one, sign, other in triples(2, 1):
            self.assertEqual(clerks.meet(one, sign, other), 0)
        self.assertEqual(clerks.back(), [])
        self.assertEqual((clerks.kept(), clerks.reckoned()), ([(0, 0, 0)], 4))
        self.assertRaises(NoKind, clerks.meet, 0, 0, 1)
        clerks.kind(())
        self.assertEqual((clerks.kept(), clerks.reckoned()), ([(0, 0, 0)], 4))
        self.assertIsNone(clerks.meet(1, 0, 0))
        self.assertEqual(clerks.meet(0, 0, 1), 0)
        self.assertEqual((clerks.kept(), clerks.reckoned()), ([(0, 0, 0), (0, 0, 1), (1, 0, 0)], 6))

    def test_nothing_in_common(self):
        house = mixed_house()
        one, other = Clerks(house), Clerks(house)
        one.meet(0, 0, 0)
        one.kind(())
        one.strike(0, 0, FIRST)
        self.assertEqual((other.kept(), other.reckoned(), other.house()), ([], 0, mixed_house()))
        self.assertRaises(NoDeed, other.back)
        other.meet(1, 0, 1)
        self.assertEqual(other.meet(0, 0, 0), 0)
        self.assertIsNone(one.meet(0, 0, 0))
        self.assertEqual((one.kept(), one.reckoned()), ([(0, 0, 0)], 2))
        self.assertEqual(house, mixed_house())

    def test_lists_told_are_new(self):
        clerks = Clerks(mixed_house())
        clerks.meet(0, 0, 0)
        told = clerks.kept()
        self.assertIs(type(told), list)
        told.append((1, 1, 1))
        told.clear()
        self.assertEqual(clerks.kept(), [(0, 0, 0)])
        spoiled = clerks.strike(0, 0, FIRST)
        self.assertIs(type(spoiled), list)
        before = list(spoiled)
        spoiled.clear()
        self.assertEqual(clerks.back(), before)
        self.assertEqual({type(part) for part in before}, {tuple})


class CourseTest(ClerksTest):
    """Courses of drawn deeds and questions, step by step beside the model."""

    def step(self, random, clerks, model):
        family, mirrors, books = model.now()
        many, signs = len(family), len(mirrors)
        choice = random.choice("kwwwwssbbbmmmmmmr")
        if choice == "k" and many < 6:
            elders = tuple(random.sample(range(many), random.randint(0, min(many, 3))))
            if Oracle(family).under(elders) is None:
                self.check_field(NoLine, {"at": many}, clerks.kind, elders)
            else:
                self.assertEqual(clerks.kind(elders), model.kind(elders))
        elif choice == "w":
            page, writing = random.choice(pages(family, mirrors)), some_writing(random, many)
            self.assertEqual(clerks.write(*page, writing), model.write(page, writing))
        elif choice == "s":
            page = random.choice(pages(family, mirrors))
            if page in books:
                self.assertEqual(clerks.strike(*page), model.strike(page))
            else:
                self.assertRaises(Missing, clerks.strike, *page)
        elif choice == "b":
            if len(model.houses) == 1:
                self.assertRaises(NoDeed, clerks.back)
            else:
                self.assertEqual(clerks.back(), model.back())
        elif choice == "m":
            meeting = (random.randrange(many), random.randrange(signs), random.randrange(many))
            self.assertEqual(clerks.meet(*meeting), model.meet(*meeting))
        else:
            with self.assertRaises(DealError):
                random.choice([
                    lambda: clerks.meet(0, signs, 0), lambda: clerks.meet(many, 0, 0), lambda: clerks.kind((many,)),
                    lambda: clerks.write(0, 0, FIRST, ()), lambda: clerks.strike(many, 0, FIRST)])()

    def test_courses(self):
        for seed in range(130):
            random = Random(seed)
            house = some_house(seed)
            clerks, model = Clerks(house), Model(house)
            for _ in range(40):
                self.step(random, clerks, model)
                self.check_as(clerks, model)
            # All deeds of the course, one after the other.
            while len(model.houses) > 1:
                self.assertEqual(clerks.back(), model.back())
                self.check_as(clerks, model)
            self.assertRaises(NoDeed, clerks.back)
            self.assertEqual(clerks.house(), some_house(seed))

    def test_what_is_kept_is_what_asking_anew_tells(self):
        for seed in range(30):
            random = Random(seed)
            house = some_house(seed)
            clerks, model = Clerks(house), Model(house)
            for _ in range(15):
                self.step(random, clerks, model)
                now = clerks.house()
                for one, sign, other in triples(len(now[0]), len(now[1]))[seed % 5::5]:
                    told = meets(now, one, sign, other)
                    self.assertEqual([clerks.meet(one, sign, other), model.meet(one, sign, other)], [told, told])
                self.assertEqual(clerks.reckoned(), model.many)

    def test_rights_are_taken(self):
        for kind, sign, side, writing in product(RIGHT["kind"], RIGHT["sign"], RIGHT["side"], RIGHT["writing"]):
            clerks = Clerks(mixed_house())
            clerks.write(kind, sign, side, writing)
            self.assertEqual(clerks.house()[2], {**right_books(), (kind, sign, side): writing})


if __name__ == "__main__":
    unittest.main()

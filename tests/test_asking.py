"""One asking (3.1, 3.2)."""

import inspect
import unittest

from dealclerks.asking import ask
from dealclerks.books import found, takes
from dealclerks.errors import NoHouse
from dealclerks.lines import callers, line_of
from tests.houses import DIAMOND, FIRST, MIXED, PLACE, SECOND, Wares, mixed_house, pages, right_books, sides, some_house
from tests.refusals import check_no_house, check_order, check_second

WORDS = ["caller", "sign", "side", "caller"]


class InterfaceTest(unittest.TestCase):
    def test_names_of_arguments(self):
        self.assertEqual(list(inspect.signature(ask).parameters), ["house", "caller", "sign", "side", "other"])

    def test_calls_by_names(self):
        wanted = (((1, 0),), 1)
        self.assertEqual(ask(other=3, side=FIRST, sign=0, caller=1, house=mixed_house()), wanted)
        self.assertEqual(ask(mixed_house(), 1, other=3, side=FIRST, sign=0), wanted)


class RefusalsTest(unittest.TestCase):
    def test_no_house(self):
        check_no_house(self, ask, WORDS)

    def test_order_of_the_arguments(self):
        check_order(self, ask, WORDS)

    def test_second_of_a_sign_that_is_not_sided(self):
        check_second(self, ask, WORDS)


class AskTest(unittest.TestCase):
    def test_made(self):
        house = mixed_house()
        self.assertEqual(ask(house, 0, 0, FIRST, 0), (((0, 2),), 0))
        self.assertEqual(ask(house, 0, 0, FIRST, 3), (((0, 0),), 2))
        self.assertEqual(ask(house, 1, 0, FIRST, 3), (((1, 0),), 1))
        self.assertEqual(ask(house, 3, 0, SECOND, 2), (((3, 0),), 3))
        self.assertEqual(ask(house, 3, 3, PLACE, 3), (((3, 0),), 3))

    def test_given_up(self):
        house = mixed_house()
        self.assertEqual(ask(house, 0, 2, FIRST, 1), (((0, 0),), -1))
        given_up = (((), ()), (0,), {(0, 0, FIRST): ((0, 1), (-1, -1), (1, 1))})
        self.assertEqual(ask(given_up, 0, 0, FIRST, 1), (((0, 1),), -1))

    def test_no_case_takes(self):
        house = mixed_house()
        self.assertEqual(ask(house, 3, 3, PLACE, 2), (((3, -1),), -1))
        # It isn't handed on then, though there is a next writing.
        house = (((), (0,)), (0,), {(1, 0, FIRST): ((1, 1),), (0, 0, FIRST): ((-1, 0),)})
        self.assertEqual(ask(house, 1, 0, FIRST, 0), (((1, -1),), -1))

    def test_handed_on(self):
        house = mixed_house()
        self.assertEqual(ask(house, 1, 0, FIRST, 0), (((1, 1), (0, 2)), 0))
        # Kind 1 hands on and kind 0 does so again, with no next one.
        self.assertEqual(ask(house, 1, 0, FIRST, 1), (((1, 1), (0, 1)), -1))
        self.assertEqual(ask(house, 3, 0, FIRST, 1), (((1, 1), (0, 1)), -1))
        self.assertEqual(ask(house, 2, 1, FIRST, 0), (((2, 0),), -1))

    def test_handed_on_again_and_again(self):
        family = ((), (0,), (1,), (2,), (3,), (4,))
        held = {(kind, 0, FIRST): ((-1, -2),) for kind in range(1, 6)}
        house = (family, (-1,), {**held, (0, 0, FIRST): ((3, 4), (-1, 5))})
        steps = ((5, 0), (4, 0), (3, 0), (2, 0), (1, 0))
        self.assertEqual(ask(house, 5, 0, FIRST, 0), (steps + ((0, 1),), 5))
        self.assertEqual(ask(house, 5, 0, FIRST, 4), (steps + ((0, 0),), 4))
        self.assertEqual(ask(house, (5,), 0, FIRST, (3,)), (steps + ((0, 0),), 4))
        self.assertEqual(ask((family, (-1,), held), 5, 0, FIRST, 0), (steps, -1))

    def test_by_the_line_and_not_by_elders(self):
        held = {(1, 0, FIRST): ((-1, -2),), (2, 0, FIRST): ((-1, 2),), (0, 0, FIRST): ((-1, 0),)}
        house = (DIAMOND, (0,), held)
        self.assertEqual(ask(house, 3, 0, FIRST, 0), (((1, 0), (2, 0)), 2))
        self.assertEqual(ask(house, 1, 0, FIRST, 0), (((1, 0), (0, 0)), 0))
        self.assertEqual(ask(house, (2, 1), 0, FIRST, 0), (((2, 0),), 2))
        self.assertEqual(ask(house, (1, 2), 0, FIRST, 0), (((1, 0), (2, 0)), 2))

    def test_no_writing(self):
        house = mixed_house()
        self.assertEqual(ask(house, 0, 0, SECOND, 0), ((), -1))
        self.assertEqual(ask(house, 3, 3, FIRST, 3), ((), -1))
        self.assertEqual(ask(house, (1, 2), 3, PLACE, (1, 2)), ((), -1))
        self.assertEqual(ask((((),), (-1,), {}), 0, 0, FIRST, (0,)), ((), -1))

    def test_rows_of_elders(self):
        house = mixed_house()
        self.assertEqual(ask(house, (1, 2), 0, FIRST, (3,)), (((1, 0),), 1))
        self.assertEqual(ask(house, (0,), 0, FIRST, (1, 2)), (((0, 1),), -1))
        self.assertEqual(ask(house, (0,), 0, FIRST, (2,)), (((0, 2),), 0))
        self.assertEqual(ask(house, (3,), 0, SECOND, (0,)), (((3, 0),), 3))
        self.assertEqual(ask(house, 0, 0, FIRST, (3,)), (((0, 0),), 2))
        self.assertEqual(ask(house, (2, 1), 0, FIRST, 0), (((1, 1), (0, 2)), 0))

    def test_as_python_asks(self):
        for seed in range(60):
            house = some_house(seed)
            family, mirrors, held = house
            some = callers(family)[::11] + [len(family) - 1]
            for sign in range(len(mirrors)):
                wares = Wares(house, sign)
                for caller in some:
                    for other in some:
                        for name, side in (("__add__", FIRST), ("__iadd__", PLACE)):
                            told = ask(house, caller, sign, side, other)
                            self.assertEqual(told, wares.ask(name, caller, other), (seed, caller, sign, side, other))

    def test_second_is_asked_as_first_would_be(self):
        for seed in range(60):
            family, mirrors, held = some_house(seed)
            for sign in range(len(mirrors)):
                if mirrors[sign] == -1:
                    turned = {(kind, of, FIRST): writing for (kind, of, side), writing in held.items() if side == SECOND}
                    for caller in callers(family)[::7]:
                        for other in callers(family)[::11]:
                            told = ask((family, mirrors, held), caller, sign, SECOND, other)
                            self.assertEqual(told, ask((family, mirrors, turned), caller, sign, FIRST, other))

    def test_steps_are_found_and_taken(self):
        for seed in range(30):
            house = some_house(seed)
            for kind, sign, side in pages(house[0], house[1]):
                for other in callers(house[0])[::17]:
                    steps, made = ask(house, kind, sign, side, other)
                    self.assertEqual(steps[0][0] if steps else None, found(house, kind, sign, side))
                    for at, case in steps:
                        self.assertEqual(case, takes(house, at, sign, side, other))

    def test_kinds_of_values(self):
        told = ask(mixed_house(), 1, 0, FIRST, 0)
        self.assertIs(type(told), tuple)
        self.assertIs(type(told[0]), tuple)
        for part in (*told[0], (told[1], told[1])):
            self.assertIs(type(part), tuple)
            self.assertEqual([type(number) for number in part], [int, int])


class SameLineTest(unittest.TestCase):
    def test_callers_of_one_told_line(self):
        for seed in range(26):
            house = some_house(seed)
            family, mirrors, held = house
            by_line = {}
            for caller in callers(family):
                by_line.setdefault(line_of(family, caller), []).append(caller)
            sign = seed % len(mirrors)
            for alike in by_line.values():
                for other in callers(family)[seed % 13::37]:
                    for side in sides(mirrors, sign):
                        self.assertEqual(len({ask(house, one, sign, side, other) for one in alike}), 1)
                        self.assertEqual(len({ask(house, other, sign, side, one) for one in alike}), 1)

    def test_of_the_other_one_only_of_which_kinds_it_comes(self):
        house = (((), (), ()), (0,), {(2, 0, FIRST): ((1, 1), (0, 0))})
        self.assertEqual(ask(house, 2, 0, FIRST, (0, 1)), ask(house, 2, 0, FIRST, (1, 0)))
        for seed in range(20):
            house = some_house(seed)
            family, mirrors, held = house
            by_set = {}
            for caller in callers(family):
                by_set.setdefault(frozenset(line_of(family, caller)), []).append(caller)
            for alike in by_set.values():
                for kind in range(len(family)):
                    self.assertEqual(len({ask(house, kind, 0, FIRST, other) for other in alike}), 1)


class OwnerTest(unittest.TestCase):
    def test_books_as_they_are_at_the_call(self):
        held = right_books()
        one = (DIAMOND, MIXED, held)
        other = (((), (0,), (1,), (2,)), MIXED, held)
        for turn in range(3):
            self.assertEqual(ask(one, 3, 0, FIRST, 0), (((1, 1), (0, 2)), 0))
            self.assertEqual(ask(other, 2, 0, FIRST, 0), (((1, 1), (0, 2)), 0))
            held[0, 0, FIRST] = ((-1, 3),)
            self.assertEqual(ask(one, 3, 0, FIRST, 0), (((1, 1), (0, 0)), 3))
            self.assertEqual(ask(other, 2, 0, FIRST, 0), (((1, 1), (0, 0)), 3))
            del held[1, 0, FIRST]
            self.assertEqual(ask(one, 3, 0, FIRST, 0), (((0, 0),), 3))
            held[1, 0, FIRST] = ()
            self.assertRaises(NoHouse, ask, one, 3, 0, FIRST, 0)
            self.assertRaises(NoHouse, ask, other, 3, 0, FIRST, 0)
            held.update(right_books())

    def test_what_is_handed_in_stays(self):
        house = mixed_house()
        for kind, sign, side in pages(DIAMOND, MIXED):
            for other in (0, 3, (1, 2)):
                first = ask(house, kind, sign, side, other)
                self.assertEqual(ask(house, kind, sign, side, other), first)
        self.assertEqual(repr(house), repr(mixed_house()))


if __name__ == "__main__":
    unittest.main()

"""Rows of wares and their groupings (5.5)."""

import inspect
import unittest
from collections import Counter
from functools import lru_cache
from itertools import product
from random import Random

from dealclerks import groupings
from dealclerks.errors import NoHouse, NoKind, NoRow, NoSign
from dealclerks.worths import doings, worth
from tests.houses import FIRST, SECOND, all_made, mixed_house, some_answering_house, some_house
from tests.refusals import RIGHT, WRONG, check, check_no_house, check_order, few

WORDS = {"ways": ["sign", "row"], "grouping_for": ["sign", "row", "kind"], "first_unlike": ["sign"]}
# How many groupings a row of so many wares has.
IN_ALL = [0, 1, 1, 2, 5, 14, 42, 132, 429, 1430, 4862, 16796, 58786]

# The left one is made, whatever stands to the right: no meeting hangs on the grouping.
LEFTMOST = (((), (), ()), (-1,), {(kind, 0, FIRST): ((-1, kind),) for kind in range(3)})
# Kind 0 with itself makes 1, with 1 makes 0; 1 with 0 makes 1; 1 with itself is answered by nobody.
TURNING = (((), ()), (-1,), {(0, 0, FIRST): ((0, 1), (1, 0)), (1, 0, FIRST): ((0, 1),)})
SILENT = (((), (0,)), (-1, 1), {})


def all_groupings(row, sign):
    if len(row) == 1:
        return [row[0]]
    found = []
    for at in range(1, len(row)):
        found += product(all_groupings(row[:at], sign), (sign,), all_groupings(row[at:], sign))
    return found


def worth_or_none(made, tree):
    """The worth of a tree, None where some meeting is answered by nobody; made as all_made tells it."""
    if isinstance(tree, int):
        return tree
    one, other = worth_or_none(made, tree[0]), worth_or_none(made, tree[2])
    return None if one is None or other is None else made[one, tree[1], other]


def ways_gone_through(made, sign, row):
    worths = [worth_or_none(made, tree) for tree in all_groupings(row, sign)]
    return dict(Counter(-1 if kind is None else kind for kind in worths))


def ways_counted(made, sign, row):
    """The same, counted by the row's two parts, for longer rows."""
    @lru_cache(None)
    def counted(start, end):
        if end - start == 1:
            return Counter({row[start]: 1})
        counts = Counter()
        for middle in range(start + 1, end):
            for (one, ones), (other, others) in product(counted(start, middle).items(), counted(middle, end).items()):
                kind = None if -1 in (one, other) else made[one, sign, other]
                counts[-1 if kind is None else kind] += ones * others
        return counts
    return dict(counted(0, len(row)))


def wares_and_signs(tree):
    """The kinds of a tree, from the left on, and the signs in it."""
    if isinstance(tree, int):
        return (tree,), []
    left, right = wares_and_signs(tree[0]), wares_and_signs(tree[2])
    return left[0] + right[0], left[1] + [tree[1]] + right[1]


def some_row(random, house, length):
    return tuple(random.randrange(len(house[0])) for _ in range(length))


def drawn_houses(many):
    for seed in range(many):
        yield some_house(seed)
        yield some_answering_house(seed)


class InterfaceTest(unittest.TestCase):
    def test_names_of_arguments(self):
        wanted = {
            "ways": ["house", "sign", "row"], "grouping_for": ["house", "sign", "row", "kind"],
            "first_unlike": ["house", "sign"],
        }
        for name, arguments in wanted.items():
            self.assertEqual(list(inspect.signature(getattr(groupings, name)).parameters), arguments)

    def test_calls_by_names(self):
        self.assertEqual(groupings.ways(row=(0, 0, 0), sign=0, house=TURNING), {0: 1, 1: 1})
        self.assertEqual(groupings.grouping_for(kind=1, row=(0, 0, 0), sign=0, house=TURNING), ((0, 0, 0), 0, 0))
        self.assertEqual(groupings.first_unlike(sign=0, house=TURNING), (0, 0, 0))


class RefusalsTest(unittest.TestCase):
    def test_no_house(self):
        for name, words in WORDS.items():
            check_no_house(self, getattr(groupings, name), words)

    def test_order_of_the_arguments(self):
        for name, words in WORDS.items():
            check_order(self, getattr(groupings, name), words)

    def test_all_behind_wrong(self):
        for sign, row, kind in product(few(WRONG["sign"], 9), few(WRONG["row"], 9), few(WRONG["kind"], 9)):
            check(self, NoHouse, groupings.grouping_for, [None, sign, row, kind])
            check(self, NoSign, groupings.grouping_for, [mixed_house(), sign, row, kind])
            check(self, NoRow, groupings.grouping_for, [mixed_house(), 0, row, kind])
            check(self, NoKind, groupings.grouping_for, [mixed_house(), 0, (0, 1), kind])

    def test_rows_by_the_house(self):
        for seed in range(20):
            house = some_house(seed)
            for kind in range(8):
                for row in ((kind,), (0, kind), (0,) * 11 + (kind,)):
                    if kind < len(house[0]):
                        self.assertEqual(sum(groupings.ways(house, 0, row).values()), IN_ALL[len(row)])
                    else:
                        check(self, NoRow, groupings.ways, [house, 0, row])
                        check(self, NoRow, groupings.grouping_for, [house, 0, row, 0])
            for length in (0, 13, 14, 20, 3000):
                check(self, NoRow, groupings.ways, [house, 0, (0,) * length])
                check(self, NoRow, groupings.grouping_for, [house, 0, (0,) * length, 0])

    def test_rights_are_taken(self):
        for sign, row, kind in product(RIGHT["sign"], RIGHT["row"], RIGHT["kind"]):
            groupings.ways(mixed_house(), sign, row)
            groupings.grouping_for(mixed_house(), sign, row, kind)
            groupings.first_unlike(mixed_house(), sign)


class WaysTest(unittest.TestCase):
    def test_one_ware(self):
        self.assertEqual([groupings.ways(SILENT, 1, (kind,)) for kind in (0, 1)], [{0: 1}, {1: 1}])

    def test_small_rows(self):
        self.assertEqual(groupings.ways(TURNING, 0, (0, 0)), {1: 1})
        self.assertEqual(groupings.ways(TURNING, 0, (1, 1)), {-1: 1})
        self.assertEqual(groupings.ways(TURNING, 0, (1, 0, 0)), {1: 1, -1: 1})
        self.assertEqual(groupings.ways(TURNING, 0, (1, 1, 0)), {-1: 2})
        self.assertEqual(groupings.ways(LEFTMOST, 0, (2, 0, 1, 1)), {2: 5})
        self.assertEqual(groupings.ways(SILENT, 0, (0, 1, 1)), {-1: 2})

    def test_nobody_that_another_part_would_answer(self):
        # Kind 1 makes itself with whoever, also where some meeting ahead of it is answered by nobody.
        house = (((), ()), (-1,), {(1, 0, FIRST): ((-1, 1),)})
        self.assertEqual(groupings.ways(house, 0, (1, 0, 0)), {1: 1, -1: 1})
        self.assertEqual(groupings.ways(house, 0, (0, 0, 1)), {-1: 2})

    def test_all_groupings_gone_through(self):
        random = Random(3)
        unanswered = several = 0
        for house in drawn_houses(40):
            made = all_made(house)
            for sign in range(len(house[1])):
                for length in range(1, 7):
                    row = some_row(random, house, length)
                    wanted = ways_gone_through(made, sign, row)
                    told = groupings.ways(house, sign, row)
                    self.assertEqual(told, wanted, (house, sign, row))
                    self.assertEqual({type(part) for item in told.items() for part in item}, {int})
                    unanswered += -1 in wanted
                    several += len(wanted) > 1
        self.assertGreater(unanswered, 50)
        self.assertGreater(several, 50)

    def test_all_short_rows(self):
        for house in (TURNING, LEFTMOST, SILENT, some_house(6), some_answering_house(6)):
            made = all_made(house)
            for length in range(1, 5):
                for row in product(range(len(house[0])), repeat=length):
                    self.assertEqual(groupings.ways(house, 0, row), ways_gone_through(made, 0, row))

    def test_long_rows(self):
        random = Random(4)
        for house in drawn_houses(30):
            made = all_made(house)
            sign = random.randrange(len(house[1]))
            for length in (7, 8, 9, 10, 11, 12, 12):
                row = some_row(random, house, length)
                told = groupings.ways(house, sign, row)
                self.assertEqual(told, ways_counted(made, sign, row))
                self.assertEqual(sum(told.values()), IN_ALL[length])
                self.assertNotIn(0, told.values())

    def test_a_new_dict_each_time(self):
        for row in ((0,), (0, 0, 0)):
            told = groupings.ways(TURNING, 0, row)
            before = dict(told)
            self.assertIs(type(told), dict)
            told[0] = told[5] = 9
            self.assertEqual(groupings.ways(TURNING, 0, row), before)
            told.clear()
            self.assertEqual(groupings.ways(TURNING, 0, row), before)


class GroupingForTest(unittest.TestCase):
    def check_row(self, house, sign, row):
        told = groupings.ways(house, sign, row)
        for kind in range(len(house[0])):
            tree = groupings.grouping_for(house, sign, row, kind)
            if kind not in told:
                self.assertIsNone(tree)
                continue
            self.assertEqual(wares_and_signs(tree), (row, [sign] * (len(row) - 1)))
            self.assertEqual(worth(house, tree), kind)
            self.assertEqual(len(doings(house, tree)), len(row) - 1)

    def test_small_rows(self):
        self.assertEqual(groupings.grouping_for(TURNING, 0, (0,), 0), 0)
        self.assertIsNone(groupings.grouping_for(TURNING, 0, (0,), 1))
        self.assertEqual(groupings.grouping_for(TURNING, 0, (0, 0), 1), (0, 0, 0))
        self.assertIsNone(groupings.grouping_for(TURNING, 0, (0, 0), 0))
        self.assertEqual(groupings.grouping_for(TURNING, 0, (0, 0, 0), 0), (0, 0, (0, 0, 0)))
        self.assertEqual(groupings.grouping_for(TURNING, 0, (1, 0, 0), 1), ((1, 0, 0), 0, 0))
        self.assertIsNone(groupings.grouping_for(TURNING, 0, (1, 0, 0), 0))
        self.assertIsNone(groupings.grouping_for(SILENT, 1, (1, 1), 1))

    def test_each_kind(self):
        random = Random(5)
        for house in drawn_houses(40):
            for sign in range(len(house[1])):
                for length in (1, 2, 3, 5, 8, 12):
                    self.check_row(house, sign, some_row(random, house, length))

    def test_all_short_rows(self):
        for house in (TURNING, LEFTMOST, SILENT, some_answering_house(6), some_answering_house(3)):
            for length in range(1, 5):
                for row in product(range(len(house[0])), repeat=length):
                    self.check_row(house, 0, row)


class FirstUnlikeTest(unittest.TestCase):
    def test_none(self):
        self.assertIsNone(groupings.first_unlike(LEFTMOST, 0))
        self.assertIsNone(groupings.first_unlike(SILENT, 0))
        self.assertIsNone(groupings.first_unlike(SILENT, 1))

    def test_the_other_one_has_no_meeting_that_nobody_answers(self):
        # Kind 1 with itself is answered by nobody; kind 0 makes itself with whoever.
        house = (((), ()), (-1,), {(0, 0, FIRST): ((-1, 0),), (1, 0, FIRST): ((0, 1),)})
        self.assertEqual(groupings.first_unlike(house, 0), (0, 1, 1))
        self.assertEqual(groupings.ways(house, 0, (0, 1, 1)), {-1: 1, 0: 1})
        self.assertEqual(groupings.ways(house, 0, (1, 1, 0)), {-1: 2})

    def test_all_threes_gone_through(self):
        nones = 0
        for house in list(drawn_houses(80)) + [LEFTMOST, TURNING, SILENT]:
            made = all_made(house)
            for sign in range(len(house[1])):
                unlike = [(a, b, c) for a, b, c in product(range(len(house[0])), repeat=3)
                          if worth_or_none(made, ((a, sign, b), sign, c)) != worth_or_none(made, (a, sign, (b, sign, c)))]
                told = groupings.first_unlike(house, sign)
                self.assertEqual(told, unlike[0] if unlike else None, (house, sign))
                nones += told is None
        self.assertGreater(nones, 20)

    def test_none_just_where_all_rows_are_worth_the_same(self):
        for house in list(drawn_houses(30)) + [LEFTMOST, SILENT]:
            many = len(house[0])
            for sign in range(len(house[1])):
                rows = [row for length in (3, 4) for row in product(range(min(many, 3)), repeat=length)]
                alike = all(len(groupings.ways(house, sign, row)) == 1 for row in rows)
                told = groupings.first_unlike(house, sign)
                if told is None:
                    self.assertTrue(alike)
                else:
                    self.assertGreater(len(groupings.ways(house, sign, told)), 1)

    def test_mirrored_signs(self):
        house = (((), ()), (1, 0), {(0, 0, FIRST): ((0, 0), (1, 1)), (1, 1, FIRST): ((1, 0),)})
        # By sign 0: 0 0 makes 0, 0 1 makes 1, 1 0 and 1 1 nobody answers. By sign 1: 1 0 makes 1, 1 1 makes 0 alone.
        self.assertIsNone(groupings.first_unlike(house, 0))
        self.assertEqual(groupings.first_unlike(house, 1), (1, 0, 0))
        self.assertEqual(groupings.ways(house, 1, (1, 0, 0)), {1: 1, -1: 1})
        house = (((), ()), (-1,), {(1, 0, SECOND): ((-1, 0),)})
        self.assertEqual(groupings.ways(house, 0, (0, 1, 1)), {0: 1, -1: 1})


class OwnTest(unittest.TestCase):
    def test_the_house_stays(self):
        house = mixed_house()
        for sign, row in product(range(4), RIGHT["row"]):
            groupings.ways(house, sign, row)
            groupings.grouping_for(house, sign, row, 3)
            groupings.first_unlike(house, sign)
        self.assertEqual(repr(house), repr(mixed_house()))

    def test_the_house_as_it_is_at_the_call(self):
        books = dict(LEFTMOST[2])
        house = (*LEFTMOST[:2], books)
        self.assertEqual(groupings.ways(house, 0, (0, 1, 2)), {0: 2})
        books[0, 0, FIRST] = ((-1, 1),)
        self.assertEqual(groupings.ways(house, 0, (0, 1, 2)), {1: 2})
        self.assertEqual(groupings.first_unlike(house, 0), None)
        books.clear()
        self.assertEqual(groupings.ways(house, 0, (0, 1, 2)), {-1: 2})


if __name__ == "__main__":
    unittest.main()

"""Lines, what comes of what, and callers (1.2, 1.4, 1.5)."""

import copy
import inspect
import unittest
from itertools import permutations

from dealclerks import lines
from dealclerks.errors import NoCaller, NoFamily, NoKind, NoLine
from tests.samples import LINED, NO_FAMILIES, PLAIN, UNLINED, WHATEVER, Oracle, families_of, some_large_families

DIAMOND = ((), (0,), (0,), (1, 2))
# Kind 2 has 0 ahead of 1, kind 3 the other way round.
AGAINST = ((), (), (0, 1), (1, 0))

BEHIND = [None, True, False, -1, 9, 10 ** 30, "a", [], {}, (), (0,), (9,), (0, 0)]


def calls_behind(thing):
    """Calls of each function of lines with the thing for a family, and right and wrong things behind it."""
    yield lines.callers, (thing,)
    for behind in BEHIND + [0]:
        yield lines.line, (thing, behind)
        yield lines.line_of, (thing, behind)
        yield lines.is_caller, (thing, behind)
        yield lines.comes_of, (thing, behind, 0)
        yield lines.comes_of, (thing, 0, behind)


def wrong_kinds(many):
    """What is no kind of a family of so many."""
    wrong = [thing for thing in WHATEVER if not isinstance(thing, int) or isinstance(thing, bool)]
    return wrong + [many, many + 1, -1, -many, 10 ** 30, -(10 ** 30)]


def within(row, longer):
    """The kinds of longer that stand in row, in the order of longer."""
    return tuple(kind for kind in longer if kind in row)


class InterfaceTest(unittest.TestCase):
    def test_names_of_arguments(self):
        wanted = {
            "line": ["family", "kind"], "line_of": ["family", "caller"], "comes_of": ["family", "kind", "other"],
            "is_caller": ["family", "thing"], "callers": ["family"],
        }
        for name, arguments in wanted.items():
            found = inspect.signature(getattr(lines, name)).parameters
            self.assertEqual(list(found), arguments)

    def test_calls_by_names(self):
        self.assertEqual(lines.line(kind=3, family=DIAMOND), (3, 1, 2, 0))
        self.assertEqual(lines.line_of(caller=(2, 1), family=DIAMOND), (2, 1, 0))
        self.assertIs(lines.comes_of(other=1, kind=3, family=DIAMOND), True)
        self.assertIs(lines.comes_of(DIAMOND, other=3, kind=1), False)
        self.assertIs(lines.is_caller(thing=(1, 2), family=DIAMOND), True)
        self.assertEqual(lines.callers(family=((),)), [0, (0,)])


class RefusalsOfFamiliesTest(unittest.TestCase):
    def test_what_is_no_family_whatever_stands_behind(self):
        for thing in NO_FAMILIES:
            for function, arguments in calls_behind(thing):
                self.assertRaises(NoFamily, function, *arguments)

    def test_what_is_not_lined_whatever_stands_behind(self):
        for family, kind in UNLINED:
            for function, arguments in calls_behind(family):
                with self.assertRaises(NoLine) as caught:
                    function(*arguments)
                self.assertEqual(caught.exception.at, kind, (family, function))
                self.assertNotIsInstance(caught.exception.at, bool)


class LineTest(unittest.TestCase):
    def test_single_kinds(self):
        for many in range(1, 7):
            for kind in range(many):
                self.assertEqual(lines.line(((),) * many, kind), (kind,))

    def test_a_chain(self):
        chain = ((), (0,), (1,), (2,), (3,), (4,))
        for kind in range(6):
            self.assertEqual(lines.line(chain, kind), tuple(range(kind, -1, -1)))

    def test_several_elders_in_their_order(self):
        self.assertEqual(lines.line(((), (), (), (2, 0, 1)), 3), (3, 2, 0, 1))
        self.assertEqual(lines.line(((), (), (0, 1)), 2), (2, 0, 1))
        self.assertEqual(lines.line(((), (), (1, 0)), 2), (2, 1, 0))

    def test_elders_in_common(self):
        self.assertEqual(lines.line(DIAMOND, 3), (3, 1, 2, 0))
        self.assertEqual(lines.line(((), (0,), (0,), (2, 1)), 3), (3, 2, 1, 0))
        self.assertEqual(lines.line(((), (), (), (0, 1), (1, 2), (3, 4)), 5), (5, 3, 0, 4, 1, 2))
        self.assertEqual(lines.line(((), (0,), (0,), (1,), (1, 2), (3, 4)), 5), (5, 3, 4, 1, 2, 0))

    def test_an_elder_that_another_elder_comes_of(self):
        self.assertEqual(lines.line(((), (0,), (1, 0)), 2), (2, 1, 0))

    def test_rows_that_do_not_go_on(self):
        with self.assertRaises(NoLine) as caught:
            lines.line(((), (0,), (0, 1)), 0)
        self.assertEqual(caught.exception.at, 2)
        with self.assertRaises(NoLine) as caught:
            lines.line((*AGAINST, (2, 3)), 1)
        self.assertEqual(caught.exception.at, 4)

    def test_an_elder_without_a_line(self):
        for family in [(*AGAINST, (2, 3), (4,)), ((), (0,), (0, 1), (2,)), ((), (0,), (0, 1), (), (3, 2))]:
            with self.assertRaises(NoLine) as caught:
                lines.line(family, 0)
            self.assertEqual(caught.exception.at, 4 if family[:4] == AGAINST else 2)

    def check_lines(self, family):
        oracle = Oracle(family)
        least = oracle.least_unlined()
        if least is None:
            for kind in range(len(family)):
                self.assertEqual(lines.line(family, kind), oracle.line(kind), (family, kind))
        else:
            with self.assertRaises(NoLine) as caught:
                lines.line(family, 0)
            self.assertEqual(caught.exception.at, least, family)

    def test_as_python_orders_classes(self):
        for many in range(1, 6):
            for family in families_of(many):
                self.check_lines(family)
        for family in some_large_families():
            self.check_lines(family)

    def test_no_kind(self):
        for family in LINED:
            for thing in wrong_kinds(len(family)):
                self.assertRaises(NoKind, lines.line, family, thing)

    def test_a_line_is_a_tuple_of_whole_numbers(self):
        for family in LINED:
            for kind in range(len(family)):
                told = lines.line(family, kind)
                self.assertIsInstance(told, tuple)
                self.assertEqual({type(part) for part in told}, {int})


class ComesOfTest(unittest.TestCase):
    def test_all_pairs(self):
        for family in LINED:
            for kind in range(len(family)):
                for other in range(len(family)):
                    wanted = other in lines.line(family, kind)
                    self.assertIs(lines.comes_of(family, kind, other), wanted, (family, kind, other))

    def test_all_pairs_of_a_diamond(self):
        found = [(a, b) for a in range(4) for b in range(4) if lines.comes_of(DIAMOND, a, b)]
        self.assertEqual(found, [(0, 0), (1, 0), (1, 1), (2, 0), (2, 2), (3, 0), (3, 1), (3, 2), (3, 3)])

    def test_itself(self):
        for family in LINED:
            for kind in range(len(family)):
                self.assertIs(lines.comes_of(family, kind, kind), True)

    def test_no_kind_in_either_place(self):
        for family in LINED:
            for thing in wrong_kinds(len(family)):
                self.assertRaises(NoKind, lines.comes_of, family, thing, 0)
                self.assertRaises(NoKind, lines.comes_of, family, 0, thing)
                self.assertRaises(NoKind, lines.comes_of, family, thing, thing)

    def test_the_order_within_lines(self):
        for family in LINED:
            for kind in range(len(family)):
                told = lines.line(family, kind)
                self.assertEqual(len(set(told)), len(told))
                for at, one in enumerate(told):
                    for behind in told[at + 1:]:
                        self.assertFalse(lines.comes_of(family, behind, one))
                    self.assertEqual(within(lines.line(family, one), told), lines.line(family, one))
                    self.assertEqual(within(family[one], told), family[one])


class CallersTest(unittest.TestCase):
    def test_kinds_are_callers(self):
        for family in LINED:
            for kind in range(len(family)):
                self.assertIs(lines.is_caller(family, kind), True)
                self.assertEqual(lines.line_of(family, kind), lines.line(family, kind))

    def test_rows_of_one_to_three_elders(self):
        family = ((),) * 6
        for length in range(1, 4):
            for row in permutations(range(6), length):
                self.assertIs(lines.is_caller(family, row), True)
                self.assertEqual(lines.line_of(family, row), row)

    def test_told_lines_of_rows(self):
        self.assertEqual(lines.line_of(DIAMOND, (3,)), (3, 1, 2, 0))
        self.assertEqual(lines.line_of(DIAMOND, (1, 2)), (1, 2, 0))
        self.assertEqual(lines.line_of(DIAMOND, (2, 1)), (2, 1, 0))
        self.assertEqual(lines.line_of(DIAMOND, (2, 1, 0)), (2, 1, 0))
        self.assertEqual(lines.line_of(DIAMOND, (3, 1, 0)), (3, 1, 2, 0))
        self.assertEqual(lines.line_of(((),), (0,)), (0,))

    def wrong_callers(self, many):
        """What is no caller of a family of so many, whatever its elders are."""
        rows = [
            (), (0, 0), (0, 0, 0), (many,), (-1,), (0, many), (True,), (False,), (0, True), (10 ** 30,), ("0",),
            (None,), [0], [], [0, 1], ([0],), ((0,),), {}, {0: 0}, ({},), (0,) * 3000, tuple(range(many)) * 4,
        ]
        return rows + list(permutations(range(many), 4)) + [many, -1, True, False, None, "0", "", 10 ** 30]

    def test_what_is_no_caller(self):
        for family in LINED:
            for thing in self.wrong_callers(len(family)):
                self.assertIs(lines.is_caller(family, thing), False, (family, thing))
                self.assertRaises(NoCaller, lines.line_of, family, thing)

    def test_rows_under_which_no_line_would_be(self):
        for family, rows in [
            (DIAMOND, [(0, 1), (0, 3), (1, 3), (2, 3), (1, 2, 3), (1, 0, 2), (0, 1, 2), (2, 1, 3)]),
            (AGAINST, [(2, 3), (3, 2), (0, 2), (2, 1, 0), (2, 3, 0), (0, 3)]),
        ]:
            for row in rows:
                self.assertIs(lines.is_caller(family, row), False, row)
                self.assertRaises(NoCaller, lines.line_of, family, row)
                self.assertNotIn(row, lines.callers(family))

    def test_whatever_is_handed_in(self):
        for family in LINED:
            known = lines.callers(family)
            for thing in WHATEVER + PLAIN:
                wanted = not isinstance(thing, bool) and thing in known and True not in (
                    isinstance(part, bool) for part in (thing if isinstance(thing, tuple) else ()))
                self.assertIs(lines.is_caller(family, thing), wanted, (family, thing))
                if wanted:
                    self.assertIsInstance(lines.line_of(family, thing), tuple)
                else:
                    self.assertRaises(NoCaller, lines.line_of, family, thing)

    def test_what_is_handed_in_stays(self):
        for thing in WHATEVER:
            before = copy.deepcopy(thing)
            lines.is_caller(DIAMOND, thing)
            self.assertEqual(repr(thing), repr(before))

    def check_callers(self, family):
        oracle = Oracle(family)
        rows = [row for length in (1, 2, 3) for row in permutations(range(len(family)), length)]
        told = {row: oracle.told(row) for row in rows}
        wanted = list(range(len(family))) + [row for row in rows if told[row] is not None]
        self.assertEqual(lines.callers(family), wanted, family)
        for row in rows:
            self.assertIs(lines.is_caller(family, row), told[row] is not None, (family, row))
            if told[row] is not None:
                self.assertEqual(lines.line_of(family, row), told[row], (family, row))

    def test_as_python_orders_classes(self):
        for many in range(1, 5):
            for family in families_of(many):
                if Oracle(family).least_unlined() is None:
                    self.check_callers(family)
        for family in LINED:
            self.check_callers(family)

    def test_all_of_them_in_order(self):
        self.assertEqual(lines.callers(((),)), [0, (0,)])
        self.assertEqual(lines.callers(((), ())), [0, 1, (0,), (1,), (0, 1), (1, 0)])
        self.assertEqual(lines.callers(((), (0,))), [0, 1, (0,), (1,), (1, 0)])
        self.assertEqual(lines.callers(DIAMOND), [
            0, 1, 2, 3, (0,), (1,), (2,), (3,), (1, 0), (1, 2), (2, 0), (2, 1), (3, 0), (3, 1), (3, 2),
            (1, 2, 0), (2, 1, 0), (3, 1, 0), (3, 1, 2), (3, 2, 0),
        ])

    def test_as_many_as_there_can_be(self):
        self.assertEqual(len(lines.callers(((),) * 6)), 6 + 6 + 30 + 120)

    def test_a_new_list_each_time(self):
        first = lines.callers(DIAMOND)
        kept = list(first)
        first.clear()
        second = lines.callers(DIAMOND)
        self.assertIsInstance(second, list)
        self.assertEqual(second, kept)
        second.append(9)
        second[0] = None
        self.assertEqual(lines.callers(DIAMOND), kept)
        self.assertIs(lines.is_caller(DIAMOND, 9), False)
        self.assertIs(lines.is_caller(DIAMOND, 0), True)

    def test_what_is_told_may_be_handed_in_again(self):
        for family in LINED:
            for caller in lines.callers(family):
                self.assertIs(lines.is_caller(family, caller), True)
                told = lines.line_of(family, caller)
                if len(told) <= 3:
                    self.assertEqual(lines.line_of(family, told), told)

    def test_the_same_question_has_the_same_answer(self):
        told = [(lines.callers(family), [lines.line(family, kind) for kind in range(len(family))]) for family in LINED]
        for family, _ in UNLINED:
            self.assertRaises(NoLine, lines.callers, family)
        for family, (known, rows) in reversed(list(zip(LINED, told))):
            self.assertEqual([lines.line(family, kind) for kind in range(len(family))], rows)
            self.assertEqual(lines.callers(family), known)


if __name__ == "__main__":
    unittest.main()

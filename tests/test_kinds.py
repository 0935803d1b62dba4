"""Families and papers that one isn't lined (1.1, 1.3)."""

import copy
import inspect
import unittest
from itertools import permutations

from dealclerks import kinds
from dealclerks.errors import DealError, NoFamily
from tests.samples import LINED, NO_FAMILIES, UNLINED, WHATEVER, Oracle, families_of, some_large_families


def is_paper(oracle, thing):
    """What 1.3 says of a tuple (kind, round) of whole numbers, word for word."""
    kind, ring = thing
    if kind != oracle.least_unlined() or len(ring) < 2 or len(set(ring)) != len(ring):
        return False
    pairs = [(ring[at], ring[(at + 1) % len(ring)]) for at in range(len(ring))]
    ahead = {(row[a], row[b]) for row in oracle.rows(kind) for b in range(len(row)) for a in range(b)}
    return all(pair in ahead for pair in pairs)


class InterfaceTest(unittest.TestCase):
    def test_names_of_arguments(self):
        wanted = {"is_family": ["thing"], "snag_holds": ["family", "thing"], "snag": ["family"]}
        for name, arguments in wanted.items():
            found = inspect.signature(getattr(kinds, name)).parameters
            self.assertEqual(list(found), arguments)

    def test_calls_by_names(self):
        family, kind = UNLINED[0]
        self.assertIs(kinds.is_family(thing=family), True)
        self.assertIs(kinds.is_family(thing=[()]), False)
        paper = kinds.snag(family=family)
        self.assertEqual(paper[0], kind)
        self.assertIs(kinds.snag_holds(thing=paper, family=family), True)
        self.assertIs(kinds.snag_holds(family, thing=None), False)


class IsFamilyTest(unittest.TestCase):
    def test_families(self):
        for family in LINED + [family for family, _ in UNLINED]:
            with self.subTest(family):
                self.assertIs(kinds.is_family(family), True)

    def test_all_families_of_one_to_five_kinds(self):
        for many in range(1, 6):
            for family in families_of(many):
                self.assertIs(kinds.is_family(family), True, family)

    def test_six_kinds_and_no_more(self):
        self.assertIs(kinds.is_family(((),) * 6), True)
        self.assertIs(kinds.is_family(((), (0,), (1, 0), (2, 1, 0), (3, 2, 1, 0), (4, 0, 3, 1, 2))), True)
        self.assertIs(kinds.is_family(((),) * 7), False)
        self.assertIs(kinds.is_family(()), False)

    def test_what_is_none(self):
        for thing in NO_FAMILIES:
            with self.subTest(thing):
                self.assertIs(kinds.is_family(thing), False)

    def test_what_is_handed_in_stays(self):
        for thing in WHATEVER:
            before = copy.deepcopy(thing)
            kinds.is_family(thing)
            kinds.snag_holds(UNLINED[1][0], thing)
            kinds.snag_holds(LINED[0], thing)
            self.assertEqual(thing, before)
            self.assertEqual(repr(thing), repr(before))

    def test_refused_whatever_stands_behind(self):
        for thing in NO_FAMILIES:
            with self.subTest(thing):
                self.assertRaises(NoFamily, kinds.snag, thing)
                for behind in (None, True, 0, "a", [], (4, (0, 1)), {}):
                    self.assertRaises(NoFamily, kinds.snag_holds, thing, behind)


class SnagTest(unittest.TestCase):
    def test_lined_families_have_none(self):
        for family in LINED:
            with self.subTest(family):
                self.assertIsNone(kinds.snag(family))

    def test_nothing_holds_of_a_lined_family(self):
        for family in LINED:
            for thing in WHATEVER:
                self.assertIs(kinds.snag_holds(family, thing), False, (family, thing))
            for kind in range(-1, 7):
                for ring in [(0, 1), (1, 0), (1, 2), (2, 1), (0, 1, 2), ()]:
                    self.assertIs(kinds.snag_holds(family, (kind, ring)), False, (family, kind, ring))

    def test_some_that_are_not_lined(self):
        for family, kind in UNLINED:
            with self.subTest(family):
                paper = kinds.snag(family)
                self.assertIsInstance(paper, tuple)
                self.assertEqual(len(paper), 2)
                self.assertEqual(paper[0], kind)
                self.assertIsInstance(paper[1], tuple)
                self.assertTrue(is_paper(Oracle(family), paper))
                self.assertIs(kinds.snag_holds(family, paper), True)

    def check_snag(self, family):
        oracle = Oracle(family)
        paper = kinds.snag(family)
        if oracle.least_unlined() is None:
            self.assertIsNone(paper, family)
        else:
            self.assertTrue(is_paper(oracle, paper), (family, paper))
            self.assertIs(kinds.snag_holds(family, paper), True, (family, paper))

    def test_just_where_a_family_is_not_lined(self):
        for many in range(1, 6):
            for family in families_of(many):
                self.check_snag(family)
        for family in some_large_families():
            self.check_snag(family)

    def test_all_rounds_of_small_families(self):
        unlined = [family for family in families_of(4) if Oracle(family).least_unlined() is not None]
        self.assertTrue(unlined)
        for family in unlined + [family for family, _ in UNLINED]:
            oracle = Oracle(family)
            rings = [ring for length in range(len(family) + 1) for ring in permutations(range(len(family)), length)]
            for kind in range(len(family)):
                for ring in rings:
                    paper = (kind, ring)
                    self.assertIs(kinds.snag_holds(family, paper), is_paper(oracle, paper), (family, paper))

    def test_a_round_of_three(self):
        family = ((), (), (), (0, 1), (1, 2), (3, 4, 2, 0))
        for ring in [(0, 1, 2), (1, 2, 0), (2, 0, 1)]:
            self.assertIs(kinds.snag_holds(family, (5, ring)), True)
        for ring in [(2, 1, 0), (1, 0, 2), (0, 2, 1), (0, 1), (1, 2), (2, 0), (0, 1, 2, 0), (0, 1, 2, 0, 1, 2)]:
            self.assertIs(kinds.snag_holds(family, (5, ring)), False)

    def test_papers_that_do_not_hold(self):
        family = ((), (), (0, 1), (1, 0), (2, 3))
        self.assertIs(kinds.snag_holds(family, (4, (0, 1))), True)
        self.assertIs(kinds.snag_holds(family, (4, (1, 0))), True)
        wrong = [
            (3, (0, 1)), (5, (0, 1)), (-1, (0, 1)), (None, (0, 1)), ("4", (0, 1)), (10 ** 30, (0, 1)),
            ((4,), (0, 1)), (4, ()), (4, (0,)), (4, (1,)), (4, (0, 0)), (4, (0, 1, 0)), (4, (0, 1, 0, 1)),
            (4, [0, 1]), [4, (0, 1)], [4, [0, 1]], (4, (False, True)), (4, (0, True)), (4, (False, 1)),
            (4, (0, 1), ()), (4,), (4, 0, 1), ((0, 1), 4), (4, None), (4, 4), (4, "01"), (4, {0: 1, 1: 0}),
            (4, (0, 2)), (4, (2, 3)), (4, (0, 5)), (4, (0, -1)), (4, (0, None)), (4, ("0", "1")), (4, ((0,), (1,))),
            (4, ([0], [1])), (4, (0, {})), (4, (0, 1) * 1400), {4: (0, 1)}, {0: 4, 1: (0, 1)}, None, True, 4, "",
            (4, (4, 0)), (4, (4, 2)),
        ]
        for thing in wrong:
            with self.subTest(thing):
                self.assertIs(kinds.snag_holds(family, thing), False)

    def test_a_truth_is_no_kind(self):
        # There is no family whose least kind without a line is 0 or 1, so a truth there is wrong anyhow.
        family = ((), (0,), (0, 1))
        self.assertIs(kinds.snag_holds(family, (2, (0, 1))), True)
        for thing in [(2, (False, 1)), (2, (0, True)), (True, (0, 1)), (False, (0, 1)), (2, (True, 0)), (2, True)]:
            self.assertIs(kinds.snag_holds(family, thing), False)

    def test_whatever_is_handed_in(self):
        for family, kind in UNLINED:
            for thing in WHATEVER:
                held = kinds.snag_holds(family, thing)
                self.assertIs(held, kind == 4 and thing in [(4, (0, 1)), (4, (1, 0))] or
                              kind == 2 and thing == (2, (0, 1)), (family, thing))
                self.assertIs(kinds.snag_holds(family, (kind, thing)),
                              thing in [(0, 1), (1, 0)] and is_paper(Oracle(family), (kind, thing)), (family, thing))

    def test_the_same_question_has_the_same_answer(self):
        told = [kinds.snag(family) for family, _ in UNLINED]
        for thing in NO_FAMILIES:
            self.assertRaises(DealError, kinds.snag, thing)
        for (family, _), paper in zip(UNLINED, told):
            self.assertIs(kinds.snag_holds(family, None), False)
            self.assertEqual(kinds.snag(family), paper)
            self.assertIs(kinds.snag_holds(family, paper), True)


if __name__ == "__main__":
    unittest.main()

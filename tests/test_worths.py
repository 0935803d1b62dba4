"""What trees over a house are worth (5.1, 5.4)."""

import inspect
import unittest
from random import Random

from dealclerks import worths
from dealclerks.errors import NoHouse, NoTree, Nobody
from tests.forest import LEFT, RIGHT, WRONG_PARTS, all_trees, doubled, leaning, some_tree
from tests.houses import DIAMOND, FIRST, SECOND, all_made, mixed_house, some_answering_house, some_house
from tests.refusals import check, check_no_house, check_order

# Kinds a, b, c; each makes the greater one of the two, but c with b, whom nobody answers.
GREATER = (((), (), ()), (-1,), {
    (0, 0, FIRST): ((0, 0), (1, 1), (2, 2)),
    (1, 0, FIRST): ((2, 2), (-1, 1)),
    (2, 0, FIRST): ((0, 2), (2, 2)),
})


class Unanswered(Exception):
    pass


def done_by_the_words(made, tree, done):
    """The worth of a tree, its meetings put into the list done; made as all_made tells it."""
    if isinstance(tree, int):
        return tree
    one = done_by_the_words(made, tree[0], done)
    other = done_by_the_words(made, tree[2], done)
    kind = made[one, tree[1], other]
    if kind is None:
        raise Unanswered
    done.append((one, tree[1], other, kind))
    return kind


class WorthsTest(unittest.TestCase):
    def check_tree(self, house, made, tree):
        """That doings and worth tell what the words do; whether the tree has a worth."""
        done = []
        try:
            kind = done_by_the_words(made, tree, done)
        except Unanswered:
            self.check_nobody(house, tree, len(done))
            return False
        self.assertEqual(worths.doings(house, tree), done)
        self.assertEqual(worths.worth(house, tree), kind)
        return True

    def check_nobody(self, house, tree, at):
        for function in (worths.doings, worths.worth):
            with self.assertRaises(Nobody, msg=(house, tree)) as caught:
                function(house, tree)
            self.assertIs(type(caught.exception), Nobody)
            self.assertEqual(caught.exception.at, at)
            self.assertIs(type(caught.exception.at), int)


class InterfaceTest(unittest.TestCase):
    def test_names_of_arguments(self):
        for name in ("doings", "worth"):
            self.assertEqual(list(inspect.signature(getattr(worths, name)).parameters), ["house", "tree"])

    def test_calls_by_names(self):
        self.assertEqual(worths.doings(tree=(0, 0, 1), house=GREATER), [(0, 0, 1, 1)])
        self.assertEqual(worths.worth(tree=(0, 0, 1), house=GREATER), 1)


class RefusalsTest(WorthsTest):
    def test_no_house_ahead_of_no_tree(self):
        for function in (worths.doings, worths.worth):
            check_no_house(self, function, ["tree"])

    def test_no_tree(self):
        for function in (worths.doings, worths.worth):
            check_order(self, function, ["tree"])

    def test_trees_spoilt_at_any_place(self):
        house = some_answering_house(4)
        self.assertEqual(house[0], DIAMOND)
        signs = len(house[1])
        wrongs = WRONG_PARTS + [4, 5, (0, signs, 0), (4, 0, 0), (0, 0, 4), [0, 0, 0], (0, 0), (0, 0, 0, 0)]
        for part in wrongs:
            for tree in (part, (part, 0, 0), (0, 0, part), ((1, 0, 1), signs - 1, (2, 0, (3, 0, part))),
                         ((part, signs - 1, 1), 0, (1, 0, 2)), (((0, 0, part), 0, 0), 0, 0)):
                for function in (worths.doings, worths.worth):
                    check(self, NoTree, function, [house, tree])

    def test_kinds_and_signs_that_the_house_has(self):
        for seed in range(40):
            house = some_answering_house(seed)
            kinds, signs = len(house[0]), len(house[1])
            for kind in range(8):
                if kind < kinds:
                    self.assertEqual(worths.worth(house, kind), kind)
                    self.assertEqual(worths.doings(house, kind), [])
                else:
                    check(self, NoTree, worths.worth, [house, kind])
                    check(self, NoTree, worths.doings, [house, (0, 0, kind)])
            for sign in range(6):
                if sign < signs:
                    self.assertEqual(len(worths.doings(house, (0, sign, 0))), 1)
                else:
                    check(self, NoTree, worths.worth, [house, (0, sign, 0)])
                    check(self, NoTree, worths.doings, [house, (0, 0, (0, sign, 0))])

    def test_forty_one_wares(self):
        house = some_answering_house(9)
        for way in (LEFT, RIGHT):
            self.assertEqual(len(worths.doings(house, leaning(40, 0, way))), 39)
            for wares in (41, 42, 60, 500):
                for function in (worths.doings, worths.worth):
                    check(self, NoTree, function, [house, leaning(wares, 0, way)])
        for tree in (doubled(6), doubled(100), (doubled(5), 0, leaning(9, 0, LEFT))):
            check(self, NoTree, worths.worth, [house, tree])
            check(self, NoTree, worths.doings, [house, tree])

    def test_no_tree_ahead_of_nobody(self):
        house = (((), ()), (-1,), {})
        for tree in ((((0, 0, 1), 0, 1), 0, 2), ((0, 0, 1), 1, 0), ((0, 0, 0), 0, None), (leaning(40, 0, LEFT), 0, 0)):
            check(self, NoTree, worths.worth, [house, tree])
            check(self, NoTree, worths.doings, [house, tree])


class NobodyTest(WorthsTest):
    def test_where(self):
        self.check_nobody(GREATER, (2, 0, 1), 0)
        self.check_nobody(GREATER, ((2, 0, 1), 0, (2, 0, 1)), 0)
        self.check_nobody(GREATER, ((0, 0, 1), 0, (2, 0, 1)), 1)
        self.check_nobody(GREATER, (((0, 0, 0), 0, 2), 0, (0, 0, 1)), 3)
        self.check_nobody(GREATER, (2, 0, (0, 0, 1)), 1)
        self.check_nobody(GREATER, (((2, 0, 0), 0, (0, 0, 0)), 0, ((0, 0, 1), 0, (2, 0, 1))), 4)
        self.check_nobody(GREATER, (0, 0, ((0, 0, (0, 0, (2, 0, 1))), 0, 0)), 0)

    def test_nobody_at_all(self):
        house = (((),), (-1,), {})
        for tree in ((0, 0, 0), ((0, 0, 0), 0, 0), (0, 0, (0, 0, 0)), ((0, 0, 0), 0, (0, 0, 0))):
            self.check_nobody(house, tree, 0)
        self.assertEqual(worths.worth(house, 0), 0)
        self.assertEqual(worths.doings(house, 0), [])

    def test_each_place(self):
        # Forty wares, and at each place, once, one that nobody answers.
        house = (((), ()), (-1,), {(0, 0, FIRST): ((0, 0),)})
        for place in range(1, 40):
            tree = 0
            for ware in range(1, 40):
                tree = (tree, 0, 1 if ware == place else 0)
            self.check_nobody(house, tree, place - 1)
        for place in range(39):
            tree = 0
            for ware in reversed(range(39)):
                tree = (1 if ware == place else 0, 0, tree)
            self.check_nobody(house, tree, 38 - place)


class DoingsTest(WorthsTest):
    def test_order(self):
        self.assertEqual(worths.doings(GREATER, ((0, 0, 1), 0, (0, 0, 2))), [(0, 0, 1, 1), (0, 0, 2, 2), (1, 0, 2, 2)])
        self.assertEqual(worths.worth(GREATER, ((0, 0, 1), 0, (0, 0, 2))), 2)
        self.assertEqual(worths.doings(GREATER, ((0, 0, (0, 0, 1)), 0, 1)), [(0, 0, 1, 1), (0, 0, 1, 1), (1, 0, 1, 1)])

    def test_a_kind_alone(self):
        for kind in range(3):
            self.assertEqual(worths.doings(GREATER, kind), [])
            self.assertEqual(worths.worth(GREATER, kind), kind)

    def test_the_same_part_twice(self):
        part = (0, 0, 1)
        tree = (part, 0, part)
        self.assertEqual(worths.doings(GREATER, tree), [(0, 0, 1, 1)] * 2 + [(1, 0, 1, 1)])
        self.assertEqual(len(worths.doings(GREATER, doubled(5))), 31)
        self.assertEqual(worths.doings(GREATER, (tree, 0, tree)), worths.doings(GREATER, tree) * 2 + [(1, 0, 1, 1)])

    def test_meetings_not_done_in_place(self):
        house = (((), ()), (-1,), {(0, 0, "place"): ((-1, 0),), (1, 0, SECOND): ((0, 1),)})
        self.assertEqual(worths.doings(house, (0, 0, 1)), [(0, 0, 1, 1)])
        self.check_nobody(house, (0, 0, 0), 0)

    def test_all_small_trees(self):
        for house in (GREATER, (((), (0,)), (1, 0), {(0, 0, FIRST): ((-1, 1),), (1, 1, FIRST): ((0, 0), (1, 1))})):
            made = all_made(house)
            for wares in range(1, 4):
                for tree in all_trees(wares, len(house[1]), len(house[0])):
                    self.check_tree(house, made, tree)

    def test_as_the_words_tell(self):
        random = Random(1)
        answered = 0
        for seed in range(60):
            for house in (some_house(seed), some_answering_house(seed)):
                made = all_made(house)
                for wares in (1, 2, 3, 4, 5, 7, 10, 20, 39, 40):
                    tree = some_tree(random, wares, len(house[1]), len(house[0]))
                    answered += self.check_tree(house, made, tree)
        self.assertGreater(answered, 600)
        self.assertLess(answered, 1190)


class OwnTest(unittest.TestCase):
    def test_new_lists_each_time(self):
        told = worths.doings(GREATER, (0, 0, (0, 0, 1)))
        self.assertIs(type(told), list)
        self.assertEqual([type(part) for part in told], [tuple, tuple])
        told.append(None)
        told[0] = None
        self.assertEqual(worths.doings(GREATER, (0, 0, (0, 0, 1))), [(0, 0, 1, 1), (0, 0, 1, 1)])
        told = worths.doings(GREATER, 0)
        told.append(0)
        self.assertEqual(worths.doings(GREATER, 0), [])

    def test_the_house_stays(self):
        house = mixed_house()
        for tree in (0, (0, 0, 1), ((3, 0, 3), 3, (1, 2, 1)), (0, 9, 0), None):
            for function in (worths.doings, worths.worth):
                try:
                    function(house, tree)
                except (Nobody, NoTree):
                    pass
        self.assertEqual(repr(house), repr(mixed_house()))

    def test_the_house_as_it_is_at_the_call(self):
        books = dict(GREATER[2])
        house = (*GREATER[:2], books)
        self.assertEqual(worths.worth(house, (0, 0, 1)), 1)
        books[0, 0, FIRST] = ((-1, 2),)
        self.assertEqual(worths.worth(house, (0, 0, 1)), 2)
        books.clear()
        self.assertRaises(Nobody, worths.worth, house, (0, 0, 1))
        books[0, 0, FIRST] = ((-1, 3),)
        self.assertRaises(NoHouse, worths.doings, house, (0, 0, 1))


if __name__ == "__main__":
    unittest.main()

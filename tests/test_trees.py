"""Ranks, trees, and how they are written and read (5.1 to 5.3)."""

import inspect
import re
import unittest
from itertools import product
from random import Random

from dealclerks import trees
from dealclerks.errors import NoRanks, NoText, NoTree, TooMany
from tests.forest import LEFT, RIGHT, WRONG_PARTS, all_trees, doubled, leaning, some_tree, wares_of
from tests.refusals import check
from tests.samples import DEEP, NO_FAMILIES

RANKS = [
    ((0, LEFT),), ((9, RIGHT),),
    ((0, LEFT), (0, LEFT)), ((0, RIGHT), (0, RIGHT)), ((0, LEFT), (1, LEFT)), ((1, LEFT), (0, RIGHT)),
    ((2, RIGHT), (3, LEFT)), ((9, RIGHT), (0, RIGHT)),
    ((1, LEFT), (1, LEFT), (2, RIGHT)), ((5, RIGHT), (4, LEFT), (5, RIGHT)), ((0, LEFT), (1, RIGHT), (2, LEFT)),
    ((1, LEFT), (1, LEFT), (2, LEFT), (2, LEFT)), ((1, LEFT), (2, RIGHT), (1, LEFT), (2, RIGHT)),
    ((3, RIGHT), (2, LEFT), (1, RIGHT), (0, LEFT)), ((0, LEFT), (1, LEFT), (8, RIGHT), (9, RIGHT)),
    ((7, RIGHT),) * 4, ((7, LEFT),) * 4,
]

NO_RANKS = NO_FAMILIES + [
    ((0, LEFT),) * 5, ((0, LEFT),) * 6, ((-1, LEFT),), ((10, LEFT),), ((11, RIGHT),), ((10 ** 30, LEFT),), ((0, "Left"),),
    ((0, "left "),), ((0, ""),), ((0, None),), ((0, 0),), ((0, True),), ((0, "<"),), ((0, "up"),), ((0, (LEFT,)),),
    ((0, [LEFT]),), ((0, "leftright"),), ((True, LEFT),), ((False, LEFT),), ((None, LEFT),), (("0", LEFT),), (((0,), LEFT),),
    ((0, LEFT), (0, RIGHT)), ((0, RIGHT), (0, LEFT)), ((0, LEFT), (1, LEFT), (0, RIGHT)), ((9, RIGHT), (8, LEFT), (9, LEFT)),
    ((0, LEFT), (1, LEFT), (2, LEFT), (0, RIGHT)), ((0, LEFT), (1, LEFT), (1, RIGHT), (2, LEFT)), ((0, LEFT), (10, LEFT)),
    ((0, LEFT), (1, "")), ((0, LEFT), (True, LEFT)), ((1, LEFT), (True, LEFT)), ((0, LEFT), (-1, LEFT)), ((0,),), ((LEFT,),),
    ((LEFT, 0),), ((0, LEFT, LEFT),), ((0, LEFT, 0),), ((0, LEFT), (0,)), ((0, LEFT), ()), ((0, LEFT), None), (0, LEFT),
    (0, LEFT, 1), [(0, LEFT)], [(0, LEFT), (1, LEFT)], ([0, LEFT],), ((0, LEFT), [1, LEFT]), {(0, LEFT): 0}, {0: (0, LEFT)},
    {0: LEFT}, "0<", "left", ("0<",), ({0: LEFT},), (((0, LEFT),),),
]

def with_brackets(tree, random, most):
    """A text of a tree with all brackets that are due, and more."""
    if isinstance(tree, int):
        text = "abcdef"[tree]
        times = random.randint(0, most)
    else:
        left, sign, right = tree
        text = with_brackets(left, random, most) + "+-*/"[sign] + with_brackets(right, random, most)
        times = random.randint(1, most + 1)
    return "(" * times + text + ")" * times


def depths(text):
    """How many brackets stand open at each place of a text."""
    open_many = 0
    found = []
    for mark in text:
        open_many += (mark == "(") - (mark == ")")
        found.append(open_many)
    return found


def read_by_the_words(ranks, text):
    """The tree of a text that can be read, found as 5.3 tells it."""
    if len(text) == 1:
        return "abcdef".index(text)
    outside = [at for at, depth in enumerate(depths(text)) if depth == 0 and text[at] in "+-*/"]
    if not outside:
        return read_by_the_words(ranks, text[1:-1])
    least = min(ranks["+-*/".index(text[at])][0] for at in outside)
    own = [at for at in outside if ranks["+-*/".index(text[at])][0] == least]
    at = own[0] if (least, RIGHT) in ranks else own[-1]
    sign = "+-*/".index(text[at])
    return read_by_the_words(ranks, text[:at]), sign, read_by_the_words(ranks, text[at + 1:])


def written_by_the_words(ranks, tree):
    """The text of a tree, as 5.2 tells it."""
    if isinstance(tree, int):
        return "abcdef"[tree]
    texts = []
    for part, way in ((tree[0], RIGHT), (tree[2], LEFT)):
        text = written_by_the_words(ranks, part)
        if isinstance(part, tuple):
            rank, own = ranks[part[1]][0], ranks[tree[1]][0]
            if rank < own or (rank == own and ranks[tree[1]][1] == way):
                text = f"({text})"
        texts.append(text)
    return "+-*/"[tree[1]].join(texts)


def can_be_read(text, signs):
    """Told by making less of the text again and again."""
    marks = "".join("\\" + mark for mark in "+-*/"[:signs])
    if re.search(f"[^a-f(){marks}w]|w", text):
        return False
    text = re.sub("[a-f]", "w", text)
    before = None
    while text != before:
        before = text
        text = re.sub(f"w[{marks}]w|\\(w\\)", "w", text)
    return text == "w"


def first_wrong(text, signs):
    """The number of the first sign up to which no text begins that can be read; None where there is none."""
    for at in range(len(text)):
        begun = text[:at + 1]
        closing = ")" * (begun.count("(") - begun.count(")"))
        if not can_be_read(begun + closing, signs) and not can_be_read(begun + "a" + closing, signs):
            return at
    return None


def parted(text):
    """A text with something put in, out or in the place of another sign, at each place, and cut off at each."""
    for at in range(len(text) + 1):
        yield text[:at]
        yield text[at:]
        yield text[:at] + text[at + 1:]
        for mark in "af+-*/() gA1.\n":
            yield text[:at] + mark + text[at:]
            yield text[:at] + mark + text[at + 1:]


class TreesTest(unittest.TestCase):
    def check_read(self, ranks, text):
        """That the text is read, or refused, as the words tell."""
        if can_be_read(text, len(ranks)):
            self.assertEqual(trees.tree_read(ranks, text), read_by_the_words(ranks, text), (ranks, text))
            return
        wrong = first_wrong(text, len(ranks))
        self.check_no_text(ranks, text, len(text) if wrong is None else wrong)

    def check_no_text(self, ranks, text, at):
        with self.assertRaises(NoText, msg=(ranks, text)) as caught:
            trees.tree_read(ranks, text)
        self.assertIs(type(caught.exception), NoText)
        self.assertIs(type(caught.exception.at), int)
        self.assertEqual(caught.exception.at, at, (ranks, text))

    def check_too_many(self, ranks, text, many):
        with self.assertRaises(TooMany) as caught:
            trees.tree_read(ranks, text)
        self.assertEqual((caught.exception.many, caught.exception.most), (many, 40))


class InterfaceTest(unittest.TestCase):
    def test_names_of_arguments(self):
        self.assertEqual(list(inspect.signature(trees.tree_text).parameters), ["ranks", "tree"])
        self.assertEqual(list(inspect.signature(trees.tree_read).parameters), ["ranks", "text"])

    def test_calls_by_names(self):
        ranks = ((0, LEFT), (1, LEFT))
        self.assertEqual(trees.tree_text(tree=((0, 0, 1), 1, 2), ranks=ranks), "(a+b)-c")
        self.assertEqual(trees.tree_read(text="(a+b)-c", ranks=ranks), ((0, 0, 1), 1, 2))


class RanksTest(unittest.TestCase):
    def test_ranks(self):
        for ranks in RANKS:
            self.assertEqual(trees.tree_text(ranks, 5), "f")
            self.assertEqual(trees.tree_read(ranks, "f"), 5)

    def test_all_ranks_of_one_and_two_signs(self):
        single = [(rank, way) for rank in range(-2, 13) for way in (LEFT, RIGHT, "up", "")]
        for ranks in [(one,) for one in single] + list(product(single, repeat=2)):
            right = all(0 <= rank <= 9 and way in (LEFT, RIGHT) for rank, way in ranks)
            right = right and (ranks[0][0] != ranks[-1][0] or ranks[0][1] == ranks[-1][1])
            if right:
                self.assertEqual(trees.tree_text(ranks, 0), "a")
            else:
                self.assertRaises(NoRanks, trees.tree_text, ranks, 0)
                self.assertRaises(NoRanks, trees.tree_read, ranks, "a")

    def test_what_are_none_whatever_stands_behind(self):
        for at, ranks in enumerate(NO_RANKS):
            for tree in (0, (0, 0, 0), (0, 9, 0), "a", None, WRONG_PARTS[at % len(WRONG_PARTS)], leaning(41, 0, LEFT)):
                check(self, NoRanks, trees.tree_text, [ranks, tree])
            for text in ("a", "a+a", "", "a+", "a++", None, "a" + "+a" * 40, DEEP[at % len(DEEP)]):
                check(self, NoRanks, trees.tree_read, [ranks, text])


class NoTreeTest(unittest.TestCase):
    def test_what_is_none(self):
        for ranks in RANKS:
            signs = len(ranks)
            for part in WRONG_PARTS + [(0, signs, 0), (0, signs + 1, 0), (0, 0, (0, signs, 0)), ((0, signs, 0), 0, 0)]:
                for tree in (part, (part, 0, 0), (0, 0, part), ((1, 0, 1), signs - 1, (2, 0, (3, 0, part))),
                             ((part, signs - 1, 1), 0, (1, 0, 2))):
                    check(self, NoTree, trees.tree_text, [ranks, tree])

    def test_forty_one_wares(self):
        for ranks in RANKS:
            for way in (LEFT, RIGHT):
                for wares in (41, 42, 60, 100, 200):
                    check(self, NoTree, trees.tree_text, [ranks, leaning(wares, 0, way)])
                self.assertEqual(len(trees.tree_text(((0, way),), leaning(40, 0, way))), 79)
            check(self, NoTree, trees.tree_text, [ranks, (doubled(5), 0, leaning(9, 0, LEFT))])
            check(self, NoTree, trees.tree_text, [ranks, (leaning(9, 0, LEFT), 0, doubled(5))])
            self.assertEqual(len(trees.tree_text(((0, LEFT),), (doubled(5), 0, leaning(8, 0, LEFT))).replace("(", "")
                                 .replace(")", "")), 79)

    def test_far_too_many(self):
        check(self, NoTree, trees.tree_text, [RANKS[0], doubled(6)])
        check(self, NoTree, trees.tree_text, [RANKS[0], doubled(200)])
        check(self, NoTree, trees.tree_text, [RANKS[0], leaning(5000, 0, LEFT)])
        check(self, NoTree, trees.tree_text, [RANKS[0], leaning(5000, 0, RIGHT)])


class TextTest(TreesTest):
    def test_letters_and_signs(self):
        ranks = RANKS[-1]
        self.assertEqual([trees.tree_text(ranks, kind) for kind in range(6)], ["a", "b", "c", "d", "e", "f"])
        self.assertEqual([trees.tree_text(ranks, (0, sign, 5)) for sign in range(4)], ["a+f", "a-f", "a*f", "a/f"])

    def test_brackets_by_rank(self):
        ranks = ((1, LEFT), (2, LEFT), (2, LEFT), (3, RIGHT))
        self.assertEqual(trees.tree_text(ranks, ((0, 0, 1), 1, 2)), "(a+b)-c")
        self.assertEqual(trees.tree_text(ranks, ((0, 1, 1), 0, 2)), "a-b+c")
        self.assertEqual(trees.tree_text(ranks, (0, 1, (1, 0, 2))), "a-(b+c)")
        self.assertEqual(trees.tree_text(ranks, (0, 0, (1, 1, 2))), "a+b-c")
        self.assertEqual(trees.tree_text(ranks, (0, 3, (1, 3, 2))), "a/b/c")
        self.assertEqual(trees.tree_text(ranks, ((0, 3, 1), 3, 2)), "(a/b)/c")
        self.assertEqual(trees.tree_text(ranks, (0, 1, (1, 2, 2))), "a-(b*c)")
        self.assertEqual(trees.tree_text(ranks, ((0, 1, 1), 2, 2)), "a-b*c")
        self.assertEqual(trees.tree_text(ranks, ((0, 3, 1), 1, (2, 3, 3))), "a/b-c/d")

    def test_brackets_by_way(self):
        left, right = ((4, LEFT), (4, LEFT)), ((4, RIGHT), (4, RIGHT))
        self.assertEqual(trees.tree_text(left, ((0, 0, 1), 1, 2)), "a+b-c")
        self.assertEqual(trees.tree_text(left, (0, 0, (1, 1, 2))), "a+(b-c)")
        self.assertEqual(trees.tree_text(right, ((0, 0, 1), 1, 2)), "(a+b)-c")
        self.assertEqual(trees.tree_text(right, (0, 0, (1, 1, 2))), "a+b-c")

    def test_as_the_words_tell(self):
        random = Random(5)
        for ranks in RANKS:
            for wares in range(1, 41):
                tree = some_tree(random, wares, len(ranks))
                self.assertEqual(trees.tree_text(ranks, tree), written_by_the_words(ranks, tree))
            for wares in range(1, 5):
                for tree in all_trees(wares, len(ranks)):
                    self.assertEqual(trees.tree_text(ranks, tree), written_by_the_words(ranks, tree))

    def test_shortest_of_all_texts(self):
        texts = ["".join(marks) for length in (1, 3, 5) for marks in product("ab+-()", repeat=length)]
        texts += ["".join(marks) for marks in product("a+-()", repeat=7)]
        readable = [text for text in texts if can_be_read(text, 2)]
        for ranks in RANKS[2:8]:
            by_tree = {}
            for text in readable:
                by_tree.setdefault(read_by_the_words(ranks, text), []).append(text)
            for tree, alike in by_tree.items():
                told = trees.tree_text(ranks, tree)
                if len(told) <= 7:
                    self.assertEqual([text for text in alike if len(text) <= len(told)], [told])


class ReadTest(TreesTest):
    def test_bare_texts(self):
        ranks = ((1, LEFT), (2, LEFT), (2, LEFT), (3, RIGHT))
        self.assertEqual(trees.tree_read(ranks, "a+b+c"), ((0, 0, 1), 0, 2))
        self.assertEqual(trees.tree_read(ranks, "a+b-c"), (0, 0, (1, 1, 2)))
        self.assertEqual(trees.tree_read(ranks, "a-b+c"), ((0, 1, 1), 0, 2))
        self.assertEqual(trees.tree_read(ranks, "a-b*c"), ((0, 1, 1), 2, 2))
        self.assertEqual(trees.tree_read(ranks, "a/b/c"), (0, 3, (1, 3, 2)))
        self.assertEqual(trees.tree_read(ranks, "a+b/c/d*e+f"), ((0, 0, ((1, 3, (2, 3, 3)), 2, 4)), 0, 5))

    def test_brackets(self):
        ranks = ((1, LEFT), (2, RIGHT))
        self.assertEqual(trees.tree_read(ranks, "(a)"), 0)
        self.assertEqual(trees.tree_read(ranks, "(((f)))"), 5)
        self.assertEqual(trees.tree_read(ranks, "(a+b)"), (0, 0, 1))
        self.assertEqual(trees.tree_read(ranks, "((a)+((b)))"), (0, 0, 1))
        self.assertEqual(trees.tree_read(ranks, "a+(b+c)"), (0, 0, (1, 0, 2)))
        self.assertEqual(trees.tree_read(ranks, "(a+b)-c"), ((0, 0, 1), 1, 2))
        self.assertEqual(trees.tree_read(ranks, "(a-b)-c"), ((0, 1, 1), 1, 2))
        self.assertEqual(trees.tree_read(ranks, "a-(b+c)-d+e"), ((0, 1, ((1, 0, 2), 1, 3)), 0, 4))

    def test_what_was_written(self):
        random = Random(6)
        for ranks in RANKS:
            for wares in list(range(1, 41)) + [40] * 5:
                tree = some_tree(random, wares, len(ranks))
                told = trees.tree_text(ranks, tree)
                self.assertEqual(trees.tree_read(ranks, told), tree)
                self.assertEqual(read_by_the_words(ranks, told), tree)
                for most in (0, 1, 2):
                    text = with_brackets(tree, random, most)
                    self.assertEqual(trees.tree_read(ranks, text), tree)
                    self.assertGreaterEqual(len(text), len(told))

    def test_brackets_more_around_any_part(self):
        random = Random(7)
        for ranks in RANKS:
            told = trees.tree_text(ranks, some_tree(random, 6, len(ranks)))
            for start in range(len(told)):
                for end in range(start + 1, len(told) + 1):
                    for times in (1, 2, 5):
                        text = told[:start] + "(" * times + told[start:end] + ")" * times + told[end:]
                        self.check_read(ranks, text)

    def test_bare_texts_of_many_wares(self):
        random = Random(8)
        for ranks in RANKS:
            for wares in range(1, 41):
                letters = [random.choice("abcdef") for _ in range(wares)]
                signs = [random.choice("+-*/"[:len(ranks)]) for _ in range(wares - 1)] + [""]
                text = "".join(letter + sign for letter, sign in zip(letters, signs))
                self.assertEqual(trees.tree_read(ranks, text), read_by_the_words(ranks, text))

    def test_all_short_texts(self):
        for ranks in (RANKS[4], RANKS[5]):
            for length in range(6):
                for marks in product("af+-()", repeat=length):
                    self.check_read(ranks, "".join(marks))
        for ranks in (RANKS[0], RANKS[1]):
            for length in range(6, 8):
                for marks in product("a+()", repeat=length):
                    self.check_read(ranks, "".join(marks))

    def test_kinds_of_values(self):
        tree = trees.tree_read(RANKS[0], "a+(b+c)")
        self.assertEqual([type(tree), type(tree[0]), type(tree[1]), type(tree[2])], [tuple, int, int, tuple])


class NoTextTest(TreesTest):
    def test_no_text(self):
        for ranks in RANKS:
            for thing in NO_FAMILIES + [["a"], ("a",), {"a": "a"}, (0, 0, 0), 0, 10 ** 30]:
                if not isinstance(thing, str):
                    self.check_no_text(ranks, thing, -1)

    def test_where(self):
        ranks = ((0, LEFT), (0, LEFT))
        for text, at in (("", 0), ("(", 1), ("a+", 2), ("(a", 2), ("((a)+", 5), ("a+(b", 4), (")", 0), ("+", 0), ("()", 1),
                         ("aa", 1), ("a b", 1), (" a", 0), ("a ", 1), ("a)", 1), ("(a))", 3), ("a++b", 2), ("a+-b", 2),
                         ("a(", 1), ("a(b)", 1), ("(a)b", 3), ("(a)(b)", 3), ("a+g", 2), ("A", 0), ("a*b", 1), ("a/b", 1),
                         ("a+b*c", 3), ("0", 0), ("a+\n", 2), ("a\n", 1), ("a\t", 1), ("~", 0), ("a+b)+c", 3), ("-a", 0),
                         ("a+b+c+d+e+f+g", 12), ("(+a)", 1), ("(a+)", 3), ("a" * 500, 1), ("~" * 500, 0), (" " * 500, 0)):
            self.check_no_text(ranks, text, at)

    def test_signs_that_there_are(self):
        for many in range(1, 5):
            ranks = ((0, LEFT),) * many
            for sign, mark in enumerate("+-*/"):
                if sign < many:
                    self.assertEqual(trees.tree_read(ranks, f"a{mark}b"), (0, sign, 1))
                else:
                    self.check_no_text(ranks, f"a{mark}b", 1)

    def test_something_put_in_or_out(self):
        random = Random(9)
        for ranks in RANKS:
            tree = some_tree(random, 5, len(ranks))
            for text in (trees.tree_text(ranks, tree), with_brackets(tree, random, 1)):
                for wrong in dict.fromkeys(parted(text)):
                    self.check_read(ranks, wrong)

    def test_long_texts_cut_off_or_changed(self):
        text = "a" + "+(b)" * 30
        for at in range(len(text)):
            cut = text[:at]
            if can_be_read(cut, 1):
                self.assertEqual(wares_of(trees.tree_read(RANKS[0], cut)), cut.count("a") + cut.count("b"))
            else:
                self.check_no_text(RANKS[0], cut, at)
            self.check_no_text(RANKS[0], text[:at] + "?" + text[at:], at)
            self.check_no_text(RANKS[0], text[:at] + "?" + text[at + 1:] + "?", at)


class LongTest(TreesTest):
    def test_too_many(self):
        for ranks in RANKS:
            for many in (41, 42, 80, 250):
                self.check_too_many(ranks, "a" + "+a" * (many - 1), many)
            self.assertEqual(wares_of(trees.tree_read(ranks, "a" + "+a" * 39)), 40)
            self.check_too_many(ranks, "(" * 100 + "a" + ")" * 100 + "+(a)" * 40, 41)
            self.check_too_many(ranks, "(a+" * 60 + "b" + ")" * 60, 61)

    def test_no_text_ahead_of_too_many(self):
        for ranks in RANKS:
            for many in (40, 41, 100, 200):
                self.check_no_text(ranks, "a" + "+a" * many + "+", 2 * many + 2)
                self.check_no_text(ranks, "a" + "+a" * many + ")", 2 * many + 1)
                self.check_no_text(ranks, "a" + "+a" * many + "+g", 2 * many + 2)
                self.check_no_text(ranks, "(" + "a" + "+a" * many, 2 * many + 2)

    def test_deep_brackets(self):
        for deep in (1, 10, 100, 249):
            self.assertEqual(trees.tree_read(RANKS[0], "(" * deep + "c" + ")" * deep), 2)
            self.check_no_text(RANKS[0], "(" * deep + "c" + ")" * (deep - 1), 2 * deep)
            self.check_no_text(RANKS[0], "(" * deep + "c" + ")" * (deep + 1), 2 * deep + 1)
            self.check_no_text(RANKS[0], "(" * deep, deep)
            self.check_no_text(RANKS[0], "(" * deep + ")", deep)
        self.check_no_text(RANKS[0], "(" * 500, 500)
        self.assertEqual(trees.tree_read(RANKS[0], "(" * 2499 + "c" + ")" * 2499), 2)

    def test_deep_brackets_around_wares(self):
        for ranks in RANKS:
            left = "(" * 200 + "a" + "+b)" * 39 + ")" * 161
            self.assertEqual(trees.tree_read(ranks, left), read_by_the_words(ranks, left))
            right = "(a+" * 39 + "(" * 150 + "b" + ")" * 150 + ")" * 39
            tree = 1
            for _ in range(39):
                tree = (0, 0, tree)
            self.assertEqual(trees.tree_read(ranks, right), tree)


if __name__ == "__main__":
    unittest.main()

"""What the document promises over the whole program (0.1 to 0.4), and its interface as a whole."""

import copy
import importlib
import inspect
import unittest
from random import Random

from dealclerks.asking import ask
from dealclerks.books import found, is_house, is_mirrors, takes
from dealclerks.clerks import Clerks
from dealclerks.desk import Desk
from dealclerks.errors import DealError
from dealclerks.groupings import first_unlike, grouping_for, ways
from dealclerks.kinds import is_family, snag, snag_holds
from dealclerks.likeness import beside, idle_cases, lean, pruned, tale_to_come, tell_tale
from dealclerks.lines import callers, comes_of, is_caller, line, line_of
from dealclerks.meeting import asked, back_first, crossed, in_place, itself, meets, placed
from dealclerks.promise import both, first_odd, grown, odd_many, table, table_holds
from dealclerks.texts import house_read, house_text
from dealclerks.trees import tree_read, tree_text
from dealclerks.worths import doings, worth
from tests.houses import FIRST, PLACE, mixed_house, no_houses, some_answering_house, some_house, some_keeping_house
from tests.samples import DEEP, PLAIN, UNLINED

PAIR = "house one sign other"
INTERFACE = {
    "kinds": {"is_family": "thing", "snag_holds": "family thing", "snag": "family"},
    "lines": {"line": "family kind", "line_of": "family caller", "comes_of": "family kind other",
              "is_caller": "family thing", "callers": "family"},
    "books": {"is_mirrors": "thing", "is_house": "thing", "found": "house caller sign side",
              "takes": "house kind sign side caller"},
    "asking": {"ask": "house caller sign side other"},
    "meeting": {"back_first": PAIR, "asked": PAIR, "in_place": PAIR, "meets": PAIR, "itself": "house one sign", "placed": PAIR,
                "crossed": "house sign"},
    "trees": {"tree_text": "ranks tree", "tree_read": "ranks text"},
    "worths": {"doings": "house tree", "worth": "house tree"},
    "groupings": {"ways": "house sign row", "grouping_for": "house sign row kind", "first_unlike": "house sign"},
    "promise": {"both": PAIR, "first_odd": "house sign", "table": "house sign", "table_holds": "house sign thing",
                "grown": "house elders", "odd_many": "house sign"},
    "likeness": {"tell_tale": "one other", "tale_to_come": "one other", "idle_cases": "house", "lean": "house",
                 "beside": "one other", "pruned": "house"},
    "texts": {"house_text": "house", "house_read": "text"},
}
CLASSES = {
    ("clerks", "Clerks"): {"house": "", "kind": "elders", "write": "kind sign side writing", "strike": "kind sign side",
                           "back": "", "meet": "one sign other", "kept": "", "reckoned": ""},
    ("desk", "Desk"): {"say": "line"},
}


def houses():
    return [mixed_house(), some_house(2), some_house(8), some_answering_house(3), some_answering_house(6),
            some_keeping_house(1, 0), some_keeping_house(9, 0), (((),), (-1,), {})]


def questions_of_house(house):
    """Questions about one house."""
    family, mirrors, books = house
    last, sign = len(family) - 1, len(mirrors) - 1
    row = callers(family)[-1]
    tree = ((0, sign, last), 0, 0)
    asked_pairs = [(0, last), (last, 0), (row, 0), (0, row), (row, row)]
    for one, other in asked_pairs:
        for function in (asked, in_place, meets, placed, back_first, both):
            yield function, house, one, sign, other
        yield ask, house, one, sign, FIRST, other
        yield itself, house, one, sign
        yield found, house, one, sign, PLACE
        yield takes, house, last, 0, FIRST, one
        yield is_caller, family, one
        yield line_of, family, one
    for function in (doings, worth):
        yield function, house, tree
    for wares in ((0,), (0, last, 0), (last,) * 12):
        yield ways, house, sign, wares
        yield grouping_for, house, sign, wares, 0
    for function in (first_unlike, first_odd, odd_many, table, crossed):
        yield function, house, sign
    yield table_holds, house, 0, table(house, 0)
    yield grown, house, row
    for function in (idle_cases, lean, pruned, house_text, is_house):
        yield function, house
    yield house_read, house_text(house)
    for function in (callers, snag, is_family):
        yield function, family
    yield comes_of, family, last, 0
    yield line, family, last
    yield is_mirrors, mirrors
    for function in (tell_tale, tale_to_come, beside):
        yield function, house, (family, mirrors, dict(list(books.items())[1:]))


def questions():
    for house in houses():
        yield from questions_of_house(house)
    for family, kind in UNLINED:
        yield snag, family
        yield snag_holds, family, snag(family)
        yield line, family, 0
    ranks = ((1, "left"), (0, "right"))
    yield tree_read, ranks, "a+b-(c-d)+e"
    yield tree_text, ranks, tree_read(ranks, "a+b-(c-d)+e")
    for thing in few_things():
        for function in (is_family, is_mirrors, is_house, house_text, house_read, lean, pruned, idle_cases, callers, snag):
            yield function, thing
        for function in (tell_tale, tale_to_come, beside, doings, worth, first_odd, table, grown, tree_read, tree_text):
            yield function, thing, thing
            yield function, mixed_house(), thing
        yield table_holds, mixed_house(), 0, thing
        yield is_caller, mixed_house()[0], thing


def few_things():
    return PLAIN + DEEP + no_houses()[::40]


def answer(function, arguments):
    """What a function tells, or its refusal with its fields."""
    try:
        return function(*arguments)
    except DealError as caught:
        return type(caught).__name__, vars(caught)


def spoil(thing):
    """Empties all lists and dicts in what was told, and puts something else into them."""
    if isinstance(thing, (list, tuple)):
        for part in thing:
            spoil(part)
    if isinstance(thing, dict):
        for part in thing.values():
            spoil(part)
    if isinstance(thing, list):
        thing.clear()
        thing.append("spoilt")
    if isinstance(thing, dict):
        thing.clear()
        thing["spoilt"] = "spoilt"


class InterfaceTest(unittest.TestCase):
    def check_plain(self, function, arguments):
        parameters = inspect.signature(function).parameters
        self.assertEqual(list(parameters), arguments, function)
        for parameter in parameters.values():
            self.assertEqual((parameter.kind, parameter.default), (parameter.POSITIONAL_OR_KEYWORD, parameter.empty))

    def test_functions(self):
        for file, functions in INTERFACE.items():
            module = importlib.import_module(f"dealclerks.{file}")
            for name, arguments in functions.items():
                self.check_plain(getattr(module, name), arguments.split())

    def test_classes(self):
        for (file, name), methods in CLASSES.items():
            made = getattr(importlib.import_module(f"dealclerks.{file}"), name)
            for method, arguments in methods.items():
                self.assertIn(method, vars(made))
                self.check_plain(vars(made)[method], ["self", *arguments.split()])


class WholeTest(unittest.TestCase):
    def test_same_answers_whatever_was_asked_in_between(self):
        asked_first = list(questions())
        told = [repr(answer(function, arguments)) for function, *arguments in asked_first]
        order = list(range(len(told)))
        Random(1).shuffle(order)
        for at in order:
            function, *arguments = asked_first[at]
            self.assertEqual(repr(answer(function, arguments)), told[at], (function.__name__, arguments))

    def test_nothing_handed_in_is_changed(self):
        for function, *arguments in questions():
            before = repr(arguments)
            answer(function, arguments)
            self.assertEqual(repr(arguments), before, function.__name__)

    def test_what_is_told_is_the_asker_s_own(self):
        for function, *arguments in questions():
            before = repr(arguments)
            told = answer(function, arguments)
            wanted = repr(told)
            spoil(told)
            self.assertEqual(repr(arguments), before, function.__name__)
            self.assertEqual(repr(answer(function, arguments)), wanted, function.__name__)

    def test_what_was_handed_in_may_be_changed_behind(self):
        for function, *arguments in questions():
            told = answer(function, arguments)
            wanted = repr(told)
            handed_in = copy.deepcopy(arguments)
            again = answer(function, handed_in)
            spoil(handed_in)
            self.assertEqual(repr(again), wanted, function.__name__)

    def test_refusals_are_of_the_package(self):
        refused = set()
        for function, *arguments in questions():
            try:
                function(*arguments)
            except ValueError as caught:
                self.assertEqual(type(caught).__bases__, (DealError,))
                refused.add(type(caught).__name__)
        self.assertGreater(len(refused), 8)


class HandedInAgainTest(unittest.TestCase):
    def test_houses_told(self):
        for house in houses():
            told = [Clerks(house).house(), lean(house), house_read(house_text(house))]
            if len(house[0]) < 6:
                told.append(grown(house, (0,)))
            if len(house[0]) <= 3:
                told += [pruned(house), beside(house, house)]
            for other in told:
                self.assertTrue(is_house(other))
                self.assertEqual(house_read(house_text(other)), other)
                self.assertEqual(Clerks(other).house(), other)
                lean(other)

    def test_trees_told(self):
        house = some_answering_house(9)
        for length in (1, 5, 12):
            row = tuple(number % 6 for number in range(length))
            kind = min(ways(house, 0, row))
            tree = grouping_for(house, 0, row, kind)
            self.assertEqual(worth(house, tree), kind)
            ranks = ((0, "left"),) * len(house[1])
            self.assertEqual(worth(house, tree_read(ranks, tree_text(ranks, tree))), kind)

    def test_callers_kinds_and_papers_told(self):
        for house in houses():
            for caller in callers(house[0])[::7]:
                told = meets(house, caller, 0, 0)
                if told is not None:
                    self.assertEqual(line_of(house[0], told)[0], told)
            told = first_odd(house, 0)
            for caller in told or ():
                self.assertTrue(is_caller(house[0], caller))
            self.assertEqual(table_holds(house, 0, table(house, 0)), told is None)

    def test_spoiled_and_kept(self):
        clerks = Clerks(mixed_house())
        for one, sign, other in clerks.strike(0, 0, FIRST):
            clerks.meet(one, sign, other)
        self.assertEqual(len(clerks.kept()), clerks.reckoned())
        for one, sign, other in clerks.kept():
            self.assertEqual(clerks.meet(one, sign, other), meets(clerks.house(), one, sign, other))
        self.assertEqual(len(clerks.kept()), clerks.reckoned())

    def test_texts_told_to_a_desk(self):
        desk = Desk()
        for house in houses():
            self.assertEqual(desk.say(f"house {house_text(house)}"), "ok")
            self.assertEqual(desk.say(f"house {desk.say('show')}"), "ok")
            self.assertEqual(house_read(desk.say("show")), house)


if __name__ == "__main__":
    unittest.main()

"""A desk (9.2 to 9.4)."""

import inspect
import re
import unittest
from itertools import product
from random import Random

from dealclerks.clerks import Clerks
from dealclerks.desk import Desk
from dealclerks.errors import (
    BadLine, DealError, Empty, Missing, NoCaller, NoDeed, NoElders, NoKind, NoLine, NoRanks, NoSide, NoSign, NoText, NoTree,
    Nobody, TooMany)
from dealclerks.meeting import asked, placed
from dealclerks.promise import first_odd
from dealclerks.texts import house_read, house_text
from dealclerks.trees import tree_read
from dealclerks.worths import doings, worth
from tests.houses import some_answering_house, some_house
from tests.samples import DEEP, NO_FAMILIES

# What a line may be, as 9.2 and 9.3 tell it.
LINES = re.compile(
    "house .*|kind( [0-9])*|write .*|strike [0-9] [0-9] (first|second|place)|back|ranks( [0-9][<>]){1,4}|put [0-9] .*"
    "|done [0-9] [0-9] [0-9]|show|meet [0-9] [0-9] [0-9]|who [0-9] [0-9] [0-9]|kept|reckoned|promise [0-9]|held [0-9]",
    re.DOTALL)
DEEP_HOUSE = "kind; kind 0; kind; sided; mirror 1; 0 0 first: 1>1 *>0; 1 0 second: 0>1; 2 0 first: 2>2; 2 1 first: *>2"
QUESTIONS = ["show", "meet 0 0 0", "who 0 0 0", "kept", "reckoned", "promise 0", "held 0"]


def desk_of(*lines):
    desk = Desk()
    for line in lines:
        desk.say(line)
    return desk


def state(desk):
    """All that can be asked of a desk without changing it."""
    places = []
    for place in range(10):
        try:
            places.append(desk.say(f"held {place}"))
        except Empty:
            places.append(None)
    return desk.say("show"), desk.say("kept"), desk.say("reckoned"), places


class DeskTest(unittest.TestCase):
    def check_said(self, desk, *pairs):
        for line, answer in pairs:
            told = desk.say(line)
            self.assertEqual(told, answer, line)
            self.assertIs(type(told), str)

    def check_refused(self, desk, line, refusal, **fields):
        """That the line is refused so, and changes nothing."""
        before = state(desk)
        with self.assertRaises(refusal, msg=line) as caught:
            desk.say(line)
        self.assertIs(type(caught.exception), refusal)
        self.assertEqual(vars(caught.exception), fields, line)
        self.assertEqual(state(desk), before)


class InterfaceTest(DeskTest):
    def test_names_of_arguments(self):
        self.assertEqual(list(inspect.signature(Desk).parameters), [])
        self.assertIn("say", vars(Desk))
        self.assertEqual(list(inspect.signature(Desk.say).parameters), ["self", "line"])

    def test_calls_by_names(self):
        self.assertEqual(Desk().say(line="show"), "kind; sided")

    def test_at_first(self):
        desk = Desk()
        self.check_said(desk, ("show", "kind; sided"), ("kept", "0"), ("reckoned", "0"), ("meet 0 0 0", "nobody"))
        for place in range(10):
            self.check_refused(desk, f"held {place}", Empty, at=place)
        self.check_refused(desk, "back", NoDeed)


class HouseTest(DeskTest):
    def test_anew(self):
        desk = desk_of("write 0 0 first: *>0", "ranks 3>", "put 4 a+a", "kind 0", "meet 0 0 1")
        self.check_said(desk, (f"house {DEEP_HOUSE}", "ok"), ("show", DEEP_HOUSE), ("kept", "0"), ("reckoned", "0"))
        self.check_refused(desk, "held 4", Empty, at=4)
        self.check_refused(desk, "back", NoDeed)

    def test_ranks_as_at_first(self):
        desk = desk_of("house kind; kind; sided; 0 0 first: *>0; 1 0 first: 0>1", "ranks 3>")
        self.check_refused(desk, "put 0 b+b+a", Nobody, at=1)
        desk.say("house kind; kind; sided; 0 0 first: *>0; 1 0 first: 0>1")
        self.check_refused(desk, "put 0 b+b+a", Nobody, at=0)
        self.check_said(desk, ("put 0 b+a+a", "b"))
        # As many as there are signs, all of one rank.
        desk.say("house kind; kind; sided; sided; 0 0 first: *>0; 0 1 first: *>1; 1 0 first: *>1; 1 1 first: *>0")
        self.check_said(desk, ("put 0 a+a-a", "b"), ("put 0 a-a+a", "b"), ("put 0 b-b-b", "b"))

    def test_each_time_the_same(self):
        desk = Desk()
        for seed in range(40):
            text = house_text(some_house(seed))
            self.check_said(desk, (f"house {text}", "ok"), ("show", text))

    def test_refused(self):
        desk = desk_of(f"house {DEEP_HOUSE}", "kind 1", "put 3 d", "meet 0 0 1")
        for text, at in (("", 0), (" ", 0), ("kind", 1), ("kind; sided; ", 2), (" kind; sided", 0), ("kind; sided ", 1),
                         ("kind; kind 0; kind 0 1; sided", 2), ("kind; mirror 1", 2), ("sided", 0), ("kind; sided\n", 1),
                         ("kind; mirror 0; 0 0 second: *>0", 2)):
            self.check_refused(desk, f"house {text}", NoText, at=at)
        self.check_refused(desk, "house " + "kind; " * 900, NoText, at=-1)
        self.check_refused(desk, "house " + " " * 5000, NoText, at=0)
        self.check_said(desk, ("held 3", "d"), ("back", "0"))


class KindTest(DeskTest):
    def test_numbers(self):
        desk = Desk()
        self.check_said(desk, ("kind", "1"), ("kind 0", "2"), ("kind 2 1", "3"), ("kind 3", "4"), ("kind 4 3 2 0 1", "5"),
                        ("show", "kind; kind; kind 0; kind 2 1; kind 3; kind 4 3 2 0 1; sided"))
        self.check_refused(desk, "kind", TooMany, many=7, most=6)
        self.check_refused(desk, "kind 0 1", TooMany, many=7, most=6)
        self.check_refused(desk, "kind 0 0", NoElders)
        self.check_refused(desk, "kind 6", NoElders)

    def test_refused(self):
        desk = desk_of("kind 0")
        for elders in ("2", "9", "0 0", "1 0 1", "0 2", "0 1 2 3 4 5 6 7 8 9"):
            self.check_refused(desk, f"kind {elders}", NoElders)
        self.check_refused(desk, "kind 0 1", NoLine, at=2)
        self.check_said(desk, ("kind 1 0", "2"))


class WriteTest(DeskTest):
    def test_how_many_are_spoiled(self):
        desk = desk_of("kind", "kind 0")
        self.check_said(desk, ("write 0 0 first: *>0", "6"), ("write 0 0 first: *>0", "0"), ("write 0 0 first: 0>0 1>0", "2"),
                        ("write 1 0 second: *>up", "0"), ("write 1 0 place: *>on 0>2", "0"))
        self.assertEqual(desk.say("show"), "kind; kind; kind 0; sided; 0 0 first: 0>0 1>0; 1 0 place: *>on 0>2; 1 0 second: *>up")

    def test_refused(self):
        desk = desk_of("house kind; kind; sided; mirror 1", "write 0 0 first: *>0", "meet 0 0 0")
        for text in ("", " ", "0 0 first", "0 0 first:", "0 0 first: ", "0 1 second: *>0", "2 0 first: *>0", "0 2 first: *>0",
                     "0 0 first: 2>0", "0 0 first: 0>2", "0 0 first: *>0 ", " 0 0 first: *>0", "0 0 third: *>0", "kind", "sided",
                     "0 0 first: *>0; 0 0 place: *>0", "0 0 first: *>0;", "0 0 first: " + " ".join(["0>0"] * 7), "kind; sided",
                     "00 0 first: *>0", "0 0 first: *>0\n", "mirror 0", "0 0 first: *>-1", "~" * 500):
            self.check_refused(desk, f"write {text}", NoText, at=0)

    def test_in_any_order(self):
        # Not as in a house's text, where they rise.
        desk = desk_of("kind", "write 1 0 first: *>0", "write 0 0 first: *>1")
        self.assertEqual(desk.say("show"), "kind; kind; sided; 0 0 first: *>1; 1 0 first: *>0")

    def test_strike(self):
        desk = desk_of("house kind; kind; sided; mirror 1; 0 0 first: *>0; 1 1 place: *>on")
        self.check_said(desk, ("strike 0 0 first", "2"), ("strike 1 1 place", "0"), ("show", "kind; kind; sided; mirror 1"))
        self.check_refused(desk, "strike 0 0 first", Missing)
        self.check_refused(desk, "strike 2 9 second", NoKind)
        self.check_refused(desk, "strike 1 2 second", NoSign)
        self.check_refused(desk, "strike 1 1 second", NoSide)
        self.check_refused(desk, "strike 1 0 second", Missing)


class BackTest(DeskTest):
    def test_each_deed(self):
        desk = desk_of("write 0 0 first: *>0", "kind 0", "write 1 0 first: *>1", "strike 0 0 first")
        self.check_said(desk, ("back", "2"), ("show", "kind; kind 0; sided; 0 0 first: *>0; 1 0 first: *>1"), ("back", "2"),
                        ("show", "kind; kind 0; sided; 0 0 first: *>0"), ("back", "0"),
                        ("show", "kind; sided; 0 0 first: *>0"), ("back", "1"), ("show", "kind; sided"))
        self.check_refused(desk, "back", NoDeed)

    def test_ranks_and_places_as_they_are(self):
        desk = desk_of("kind", "write 0 0 first: *>0", "write 1 0 first: 0>1", "ranks 7>", "put 2 b", "put 9 a")
        self.check_said(desk, ("back", "2"), ("held 2", "b"), ("held 9", "a"))
        self.check_said(desk, ("write 1 0 first: 0>1", "2"), ("put 3 b+a+a", "b"))
        self.check_refused(desk, "put 3 b+b+a", Nobody, at=1)

    def test_a_ware_of_a_kind_that_goes(self):
        desk = desk_of("kind", "kind 0", "put 0 a", "put 1 b", "put 2 c", "put 3 c")
        self.check_said(desk, ("back", "0"), ("held 0", "a"), ("held 1", "b"))
        self.check_refused(desk, "held 2", Empty, at=2)
        self.check_refused(desk, "held 3", Empty, at=3)
        # It stays empty where a kind of this number comes again.
        self.check_said(desk, ("kind", "2"))
        self.check_refused(desk, "held 2", Empty, at=2)
        self.check_said(desk, ("back", "0"), ("back", "0"), ("held 0", "a"))
        self.check_refused(desk, "held 1", Empty, at=1)

    def test_puts_and_ranks_are_no_deeds_of_the_clerks(self):
        desk = desk_of("ranks 5>", "put 0 a")
        self.check_refused(desk, "back", NoDeed)

    def test_kept(self):
        desk = desk_of("kind", "write 0 0 first: *>0", "meet 0 0 0", "meet 1 0 1", "kind 0", "meet 2 0 2")
        self.check_said(desk, ("kept", "3"), ("back", "0"), ("kept", "2"), ("back", "2"), ("kept", "1"), ("reckoned", "3"))


class RanksTest(DeskTest):
    HOUSE = "house kind; kind; sided; sided; 0 0 first: *>0; 0 1 first: *>1; 1 0 first: *>1; 1 1 first: 0>0"

    def test_ways(self):
        desk = desk_of(self.HOUSE)
        self.check_said(desk, ("ranks 0< 1<", "ok"), ("put 0 a+b-a", "a"), ("ranks 1< 0<", "ok"), ("put 0 a+b-a", "b"),
                        ("ranks 0> 0>", "ok"), ("put 0 a+b-a", "a"), ("ranks 0< 0<", "ok"), ("put 0 a+b-a", "b"),
                        ("ranks 9> 8<", "ok"), ("put 0 a+b-a", "b"))

    def test_refused(self):
        desk = desk_of(self.HOUSE, "ranks 0> 1<")
        for ranks in ("0<", "0< 0< 0<", "0< 0>", "0> 0<", "9< 9>", "0< 1< 2< 3<", "0< 1< 0>"):
            self.check_refused(desk, f"ranks {ranks}", NoRanks)
        self.check_said(desk, ("put 0 a+b-a", "a"))
        desk = Desk()
        self.check_refused(desk, "ranks 0< 0<", NoRanks)
        self.check_said(desk, ("ranks 9>", "ok"))

    def test_how_many_signs(self):
        for many in range(1, 5):
            desk = desk_of("house kind; " + "; ".join(["sided"] * many))
            for words in range(1, 5):
                line = "ranks" + " 4>" * words
                if words == many:
                    self.check_said(desk, (line, "ok"))
                else:
                    self.check_refused(desk, line, NoRanks)


class PutTest(DeskTest):
    def test_worth_and_meetings(self):
        desk = desk_of("kind", "write 0 0 first: 0>1 1>0", "write 1 0 first: 0>1")
        self.check_said(desk, ("put 0 a", "a"), ("reckoned", "0"), ("put 1 a+a", "b"), ("reckoned", "1"), ("kept", "1"),
                        ("put 2 a+a+a", "b"), ("reckoned", "2"), ("put 2 a+(a+a)", "a"), ("reckoned", "3"), ("kept", "3"),
                        ("put 2 ((a)+a)+(a)", "b"), ("reckoned", "3"), ("held 0", "a"), ("held 1", "b"), ("held 2", "b"))

    def test_the_same_meeting_twice(self):
        desk = desk_of("write 0 0 first: *>0")
        self.check_said(desk, ("put 7 a+a+a+a", "a"), ("reckoned", "1"), ("kept", "1"))

    def test_kept_by_meet(self):
        desk = desk_of("write 0 0 first: *>0", "meet 0 0 0")
        self.check_said(desk, ("put 7 a+a", "a"), ("reckoned", "1"), ("write 0 0 first: 0>0 *>0", "0"), ("put 7 a+a", "a"),
                        ("reckoned", "1"), ("write 0 0 first: 0>up", "1"), ("kept", "0"))

    def test_refused(self):
        desk = desk_of("kind", "write 0 0 first: 0>1 1>0", "put 5 b", "meet 1 0 1")
        for text, at in (("", 0), (" ", 0), ("a ", 1), (" a", 0), ("a+", 2), ("a-a", 1), ("(a", 2), ("g", 0), ("a+g", 2),
                         ("a\n", 1), ("0", 0), ("a" + "+a" * 50 + "+", 102), ("a+a b", 3)):
            self.check_refused(desk, f"put 5 {text}", NoText, at=at)
        self.check_refused(desk, "put 5 a" + "+a" * 40, TooMany, many=41, most=40)
        self.check_refused(desk, "put 5 c" + "+b" * 60, TooMany, many=61, most=40)
        for text in ("c", "a+c", "b+b+f", "(b+b)+(d+a)", "b" + "+b" * 38 + "+c"):
            self.check_refused(desk, f"put 5 {text}", NoTree)
        for text, at in (("b+b", 0), ("a+a+a", 1), ("a+(a+(a+a))+(b+b)", 3), ("b+a", 0)):
            self.check_refused(desk, f"put 5 {text}", Nobody, at=at)
        self.check_said(desk, ("held 5", "b"), ("kept", "1"), ("reckoned", "1"))

    def test_long_texts(self):
        desk = desk_of("write 0 0 first: *>0")
        deep = "(" * 2400 + "a" + ")" * 2400
        self.check_said(desk, (f"put 0 {deep}", "a"), ("put 1 a" + "+a" * 39, "a"))
        self.check_refused(desk, f"put 0 {deep})", NoText, at=4801)
        self.check_refused(desk, "put 0 a" + "+a" * 2490, TooMany, many=2491, most=40)
        self.check_refused(desk, "put 0 a" + "+a" * 3000, TooMany, many=3001, most=40)

    def test_places(self):
        desk = desk_of("kind")
        for place in range(10):
            self.check_said(desk, (f"put {place} {'ab'[place % 2]}", "ab"[place % 2]))
        for place in range(10):
            self.check_said(desk, (f"held {place}", "ab"[place % 2]))

    def test_more_signs(self):
        desk = desk_of("house kind; kind; sided; mirror 2; mirror 1; sided; 0 0 first: *>1; 0 1 first: *>0; 1 2 first: *>1; "
                       "1 3 place: *>0")
        self.check_said(desk, ("put 0 a+a", "b"), ("put 0 a-a", "a"), ("put 0 b*b", "b"), ("put 0 b*a", "b"))
        self.check_refused(desk, "put 0 a*a", Nobody, at=0)
        self.check_refused(desk, "put 0 b/a", Nobody, at=0)


class DoneTest(DeskTest):
    def test_in_place_and_meeting(self):
        desk = desk_of("house kind; kind; sided; sided; 0 0 place: 1>1; 0 1 first: *>0; 1 0 second: *>0; 1 1 place: *>up",
                       "put 0 a", "put 1 b")
        self.check_said(desk, ("done 0 0 1", "b"), ("held 0", "b"), ("held 1", "b"), ("kept", "0"), ("reckoned", "0"))
        self.check_said(desk, ("put 0 a", "a"), ("done 0 1 0", "a"), ("done 0 1 1", "a"), ("held 1", "b"))
        self.check_refused(desk, "done 1 1 0", Nobody, at=0)
        self.check_refused(desk, "done 1 0 1", Nobody, at=0)
        self.check_said(desk, ("kept", "0"), ("reckoned", "0"))

    def test_order_of_refusals(self):
        desk = Desk()
        self.check_refused(desk, "done 3 9 4", Empty, at=3)
        self.check_refused(desk, "done 3 0 3", Empty, at=3)
        desk.say("put 3 a")
        self.check_refused(desk, "done 3 9 4", Empty, at=4)
        self.check_refused(desk, "done 4 9 3", Empty, at=4)
        self.check_refused(desk, "done 3 9 3", NoSign)
        self.check_refused(desk, "done 3 1 3", NoSign)
        self.check_refused(desk, "done 3 0 3", Nobody, at=0)

    def test_the_same_place_twice(self):
        desk = desk_of("kind", "write 0 0 place: 0>1", "put 0 a")
        self.check_said(desk, ("done 0 0 0", "b"), ("held 0", "b"))
        self.check_refused(desk, "done 0 0 0", Nobody, at=0)


class QuestionsTest(DeskTest):
    def test_meet(self):
        desk = desk_of(f"house {DEEP_HOUSE}")
        self.check_said(desk, ("meet 0 0 0", "a"), ("meet 0 0 1", "b"), ("meet 2 0 0", "nobody"), ("meet 2 0 2", "c"),
                        ("kept", "4"), ("reckoned", "4"), ("meet 2 0 0", "nobody"), ("kept", "4"), ("reckoned", "4"))
        self.check_refused(desk, "meet 3 9 9", NoKind)
        self.check_refused(desk, "meet 0 2 9", NoSign)
        self.check_refused(desk, "meet 0 0 3", NoKind)

    def test_who(self):
        desk = desk_of(f"house {DEEP_HOUSE}")
        self.check_said(desk, ("who 0 0 1", "back: 1.0"), ("who 0 0 0", "fore: 0.1"), ("who 2 0 0", "fore: 2.- back:"),
                        ("who 1 0 1", "fore: 0.0"), ("who 0 1 1", "fore: back:"), ("who 0 1 2", "fore: back: 2.0"),
                        ("who 1 0 2", "fore: 0.1"), ("kept", "0"), ("reckoned", "0"))
        desk = desk_of("house kind; kind 0; sided; 0 0 first: 1>on *>up; 1 0 first: 0>on 1>up; 1 0 second: 0>up")
        self.check_said(desk, ("who 1 0 0", "fore: 1.0 0.1 back:"), ("who 0 0 1", "back: 1.0 fore: 0.0"),
                        ("who 1 0 1", "fore: 1.0 0.0"))
        self.check_refused(desk, "who 2 9 9", NoCaller)
        self.check_refused(desk, "who 0 1 9", NoSign)
        self.check_refused(desk, "who 0 0 2", NoCaller)

    def test_promise(self):
        desk = Desk()
        self.check_said(desk, ("promise 0", "0"), ("write 0 0 first: *>0", "1"), ("promise 0", "yes"), ("kind", "1"),
                        ("promise 0", "1"), ("write 1 0 first: 0>1", "2"), ("promise 0", "1"), ("write 1 0 first: 1>1", "2"),
                        ("promise 0", "1 0"), ("write 1 0 first: *>1", "1"), ("promise 0", "yes"),
                        ("write 0 0 second: 1>0", "0"), ("promise 0", "1 0"), ("kept", "0"))
        self.check_refused(desk, "promise 1", NoSign)
        self.check_refused(desk, "promise 9", NoSign)

    def test_promise_of_rows(self):
        desk = desk_of("house kind; sided; 0 0 first: *>0; 0 0 second: *>up")
        self.check_said(desk, ("promise 0", "yes"), ("write 0 0 first: *>up", "1"), ("promise 0", "0"))
        desk.say("house kind; kind; mirror 0; 0 0 first: 0>0 1>up; 1 0 first: 0>0 1>1")
        told = first_odd(house_read(desk.say("show")), 0)
        self.assertEqual(told, (1, (1, 0)))
        self.check_said(desk, ("promise 0", "1 (10)"))
        # A row alone with itself, one with a kind, two kinds to come of one row.
        desk.say("house kind; kind; sided; 0 0 first: 1>up *>0; 0 0 second: *>0; 1 0 first: 0>up *>0; 1 0 second: *>0")
        self.check_said(desk, ("promise 0", "(01)"))
        desk.say("house kind; kind; sided; 0 0 first: *>0; 0 0 second: 0>on; 1 0 first: 1>1 *>0; 1 0 second: 1>1")
        self.check_said(desk, ("promise 0", "(01) 1"))
        desk.say("house kind; kind; sided; 0 0 first: 0>0 1>1; 0 0 second: 0>on; 1 0 first: *>1; 1 0 second: 1>1")
        self.check_said(desk, ("promise 0", "(01) (01)"))

    def test_all_shapes_of_what_promise_tells(self):
        shapes = set()
        for seed in range(200):
            house = (some_house(seed) if seed % 2 else some_answering_house(seed))
            if len(house[0]) > 3:
                continue
            desk = desk_of(f"house {house_text(house)}")
            for sign in range(len(house[1])):
                odd = first_odd(house, sign)
                self.check_said(desk, (f"promise {sign}", "yes" if odd is None else promise_by_the_words(odd)))
                shapes.add(tuple(type(part) for part in odd or ()))
        self.assertLessEqual({(), (int,), (int, int), (int, tuple)}, shapes)

    def test_held(self):
        desk = desk_of("kind", "put 0 b")
        self.check_said(desk, ("held 0", "b"), ("held 0", "b"))
        self.check_refused(desk, "held 1", Empty, at=1)

    def test_nothing_is_changed_but_what_meet_keeps(self):
        desk = desk_of(f"house {DEEP_HOUSE}", "put 0 a")
        before = state(desk)
        for line in ("show", "who 0 0 1", "kept", "reckoned", "promise 0", "promise 1", "held 0"):
            desk.say(line)
            self.assertEqual(state(desk), before)
        desk.say("meet 0 0 1")
        self.assertEqual(state(desk), (before[0], "1", "1", before[3]))
        self.check_refused(desk, "back", NoDeed)


BAD = [
    "", " ", "  ", "\n", "\t", "Show", "SHOW", "show ", " show", "show show", "show\n", "show\t", "\tshow", "shows",
    "help",
    "house", "House kind; sided", "houses kind; sided", "house\tkind; sided", " house kind; sided", "housekind; sided",
    "kind ", "kind  0", "kind 0 ", " kind", "kind a", "kind 00", "kind 10", "kind 0,1", "kind -1", "kind 0  1",
    "kind *",
    "kind\t0", "kind 0\n", "kind; sided", "kinds", "kind 0 a", "kind 0 1 2 x",
    "write", "write\t0 0 first: *>0", "Write 0 0 first: *>0", " write 0 0 first: *>0",
    "strike", "strike 0", "strike 0 0", "strike 0 0 ", "strike 0 0 first ", "strike 0 0 third", "strike 0 0 First",
    "strike 0 0 0",
    "strike 0 0 first second", "strike first 0 0", "strike 00 0 first", "strike 0 a first", "strike  0 0 first",
    "strike 0  0 first", "strike 0 0  first", "strike 0 0 first\n", "strike 0 * first", "strike 0 0 first,second",
    "back ", "back 0", " back", "Back", "backs", "back back",
    "ranks", "ranks ", "ranks 0", "ranks <", "ranks <0", "ranks 0< ", "ranks  0<", "ranks 00<", "ranks 0<<",
    "ranks 0<>", "ranks 0=",
    "ranks 10<", "ranks 0<1<", "ranks 0< 0< 0< 0< 0<", "ranks 0< 1", "ranks a<", "ranks 0< <", "ranks 0<\n",
    "ranks 0 <", "ranks left",
    "put", "put ", "put 0", "put a", "put a a", "put 00 a", "put  0 a", "put 0\ta", "put  a", "put +0 a", "put 10 a",
    "put -1 a",
    "done", "done 0", "done 0 0", "done 0 0 0 0", "done 0 0 ", "done 0  0", "done 0 + 0", "done 0 0 0 ", "done a 0 0",
    "done 00 0 0",
    "done 0 0 00", "done 0 0 first",
    "meet", "meet 0", "meet 0 0", "meet 0 0 0 0", "meet a + b", "meet 0 0 0 ", "meet 0 0 a", "meet  0 0 0",
    "meet 0 10 0",
    "who", "who 0 0", "who 0 0 0 0", "who (0) 0 0", "who 01 0 0", "who 0 0 0\n", "who a 0 0", "who 0  0 0",
    "kept ", "kept 0", " kept", "reckoned ", "reckoned 1", "keeps", "promise", "promise ", "promise 0 0", "promise a",
    "promise 00",
    "promise 0 ", "held", "held ", "held a", "held 10", "held 0 0", "held 0 ", "held -1", "hold 0", "0", "a", "a+a",
    "yes", "ok", "nobody",
]


class BadLineTest(DeskTest):
    def test_no_text(self):
        desk = Desk()
        for thing in NO_FAMILIES + DEEP + [["show"], ("show",), {"show": "show"}, ("put", 0, "a")]:
            if not isinstance(thing, str):
                self.check_refused(desk, thing, BadLine)

    def test_bad_lines(self):
        desk = desk_of(f"house {DEEP_HOUSE}", "put 0 a", "kind")
        for line in BAD + [thing for thing in NO_FAMILIES if isinstance(thing, str) and thing != "kind"]:
            self.assertIsNone(LINES.fullmatch(line), line)
            self.check_refused(desk, line, BadLine)

    def test_ahead_of_all_else(self):
        desk = Desk()
        # All figures are beyond what there is, and a word is wrong besides.
        for line in ("strike 9 9 third", "done 9 9 a", "meet 9 9 x", "who 9 9 x", "kind 9 9 x", "ranks 0< 0> x", "put x )(",
                     "held x", "promise x", "strike 9 9 second first", "back 1", "ranks 0< 0> 0< 0> 0<"):
            self.check_refused(desk, line, BadLine)

    def test_texts_are_taken_as_they_are(self):
        desk = Desk()
        for line, at in (("house ", 0), ("house  ", 0), ("house  kind; sided", 0), ("house kind; sided ", 1), ("house \n", 0),
                         ("write ", 0), ("write  ", 0), ("write  0 0 first: *>0", 0), ("write a b c d e", 0), ("write \t", 0),
                         ("put 0 ", 0), ("put 0  ", 0), ("put 0  a", 0), ("put 0 a a", 1), ("put 0 a\n", 1), ("put 9 0 0 0", 0)):
            self.check_refused(desk, line, NoText, at=at)

    def test_as_the_words_tell(self):
        random = Random(1)
        words = ["house", "kind", "write", "strike", "back", "ranks", "put", "done", "show", "meet", "who", "kept", "reckoned",
                 "promise", "held", "0", "1", "9", "a", "first", "second", "place", "0<", "9>", "", "00", "<", "kind; sided"]
        good = bad = 0
        for _ in range(6000):
            line = " ".join(random.choices(words[:15], k=1) + random.choices(words[15:], k=random.randint(0, 4)))
            if random.random() < 0.2:
                line = random.choice(("", " ")) + line + random.choice(("", " ", "\n"))
            desk = Desk()
            try:
                desk.say(line)
                refusal = None
            except DealError as caught:
                refusal = type(caught)
            right = LINES.fullmatch(line) is not None
            self.assertEqual(refusal is not BadLine, right, line)
            good += right
            bad += not right
        self.assertGreater(min(good, bad), 500)


def promise_by_the_words(odd):
    """What is written for what first_odd tells."""
    return " ".join(str(part) if isinstance(part, int) else "(" + "".join(map(str, part)) + ")" for part in odd)


class DeskModel:
    """A desk by the words of 9.2 and 9.3, over clerks and the functions that they name; of right lines alone."""

    def __init__(self):
        self.begin("kind; sided")

    def begin(self, text):
        house = house_read(text)
        self.clerks, self.ranks, self.places = Clerks(house), ((0, "left"),) * len(house[1]), [None] * 10

    def say(self, line):
        word, _, rest = line.partition(" ")
        figures = [int(part) for part in rest.split(" ") if part.isdigit()]
        return getattr(self, "say_" + word)(rest, figures)

    def say_house(self, rest, figures):
        self.begin(rest)
        return "ok"

    def say_kind(self, rest, figures):
        return str(self.clerks.kind(tuple(figures)))

    def say_write(self, rest, figures):
        family, mirrors, books = self.clerks.house()
        try:
            read = house_read(house_text((family, mirrors, {})) + "; " + rest)
        except NoText:
            raise NoText(0) from None
        if "; " in rest:
            raise NoText(0)
        (page, writing), = read[2].items()
        return str(len(self.clerks.write(*page, writing)))

    def say_strike(self, rest, figures):
        return str(len(self.clerks.strike(*figures, rest.split(" ")[2])))

    def say_back(self, rest, figures):
        spoiled = self.clerks.back()
        kinds = range(len(self.clerks.house()[0]))
        self.places = [kind if kind in kinds else None for kind in self.places]
        return str(len(spoiled))

    def say_ranks(self, rest, figures):
        ranks = tuple((int(word[0]), {"<": "left", ">": "right"}[word[1]]) for word in rest.split(" "))
        tree_read(ranks, "a")
        if len(ranks) != len(self.clerks.house()[1]):
            raise NoRanks
        self.ranks = ranks
        return "ok"

    def say_put(self, rest, figures):
        tree = tree_read(self.ranks, rest[2:])
        kind = worth(self.clerks.house(), tree)
        for one, sign, other, made in doings(self.clerks.house(), tree):
            assert self.clerks.meet(one, sign, other) == made
        self.places[int(rest[0])] = kind
        return "abcdef"[kind]

    def held(self, place):
        if self.places[place] is None:
            raise Empty(place)
        return self.places[place]

    def say_done(self, rest, figures):
        place, sign, other = figures
        wares = self.held(place), self.held(other)
        made = placed(self.clerks.house(), wares[0], sign, wares[1])
        if made is None:
            raise Nobody(0)
        self.places[place] = made
        return "abcdef"[made]

    def say_show(self, rest, figures):
        return house_text(self.clerks.house())

    def say_meet(self, rest, figures):
        made = self.clerks.meet(*figures)
        return "nobody" if made is None else "abcdef"[made]

    def say_who(self, rest, figures):
        words = []
        for who, steps, made in asked(self.clerks.house(), *figures):
            words += [("fore:", "back:")[who]] + [f"{kind}.{'-' if case == -1 else case}" for kind, case in steps]
        return " ".join(words)

    def say_kept(self, rest, figures):
        return str(len(self.clerks.kept()))

    def say_reckoned(self, rest, figures):
        return str(self.clerks.reckoned())

    def say_promise(self, rest, figures):
        odd = first_odd(self.clerks.house(), figures[0])
        return "yes" if odd is None else promise_by_the_words(odd)

    def say_held(self, rest, figures):
        return "abcdef"[self.held(figures[0])]


def some_line(random):
    """A line of some desk's, often one that is refused."""
    def figure(most=3):
        return str(random.randint(0, most))

    cases = " ".join(random.choice("*0123") + ">" + random.choice(("on", "up", "0", "1", "2"))
                     for _ in range(random.randint(1, 3)))
    side = random.choice(("first", "first", "second", "place"))
    tree = "".join(random.choice("abc") + random.choice("+++-*") for _ in range(random.randint(0, 3))) + random.choice("abcd")
    return random.choice([
        f"kind{random.choice(['', ' 0', ' 1', ' 1 0', ' 0 1', ' 2 1', ' 2'])}",
        *[f"write {figure(2)} {random.choice('0001')} {side}: {cases}"] * 5,
        f"strike {figure(2)} {random.choice('0001')} {side}", "back", "back",
        f"ranks{random.choice([' 0<', ' 3>', ' 0< 1>', ' 1> 1>', ' 0< 0>'])}",
        *[f"put {figure()} {tree}"] * 3, *[f"done {figure()} {random.choice('0001')} {figure()}"] * 2,
        "show", *[f"meet {figure(2)} {random.choice('0001')} {figure(2)}"] * 3,
        f"who {figure(2)} {random.choice('0001')} {figure(2)}", "kept", "reckoned", f"held {figure()}",
    ])


def answer(desk, line):
    """What a desk answers, or its refusal with its fields."""
    try:
        return desk.say(line)
    except DealError as caught:
        return type(caught).__name__, vars(caught)


STARTS = ["kind; sided", "kind; kind 0; sided; 0 0 first: *>0; 1 0 second: 0>1", DEEP_HOUSE,
          "kind; kind; mirror 1; mirror 0; 0 0 first: 1>1; 1 0 first: *>0", "kind; kind; kind 0 1; mirror 0; 2 0 first: *>on"]


class CourseTest(DeskTest):
    def test_beside_the_model(self):
        refused = told = 0
        for seed in range(60):
            random = Random(seed)
            desk, model = Desk(), DeskModel()
            for line in [f"house {STARTS[seed % len(STARTS)]}"] + [some_line(random) for _ in range(80)]:
                self.assertIsNotNone(LINES.fullmatch(line), line)
                wanted = answer(model, line)
                self.assertEqual(answer(desk, line), wanted, line)
                refused += isinstance(wanted, tuple)
                told += isinstance(wanted, str)
            self.assertEqual(answer(desk, "promise 0"), answer(model, "promise 0"))
        self.assertGreater(min(refused, told), 1000)

    def test_other_lines_in_between(self):
        """Two desks told the same lines, the one with questions, refused lines and deeds undone at once in between."""
        for seed in range(30):
            random = Random(seed)
            plain, busy = Desk(), Desk()
            for line in [f"house {STARTS[seed % len(STARTS)]}"] + [some_line(random) for _ in range(50)]:
                self.between(random, busy)
                wanted = answer(plain, line)
                if line in ("kept", "reckoned"):
                    continue
                self.assertEqual(answer(busy, line), wanted, line)

    def between(self, random, desk):
        for _ in range(random.randint(0, 3)):
            line = random.choice(QUESTIONS + BAD + ["house x", "write x", "put 0 x", "strike 9 0 first", "ranks 0< 0>", "kind 9"])
            answer(desk, line)
        deed = random.choice(["kind", "kind 0", "write 0 0 first: *>0", "write 0 0 place: *>up", "strike 0 0 first"])
        if isinstance(answer(desk, deed), str):
            desk.say("back")

    def test_nothing_in_common(self):
        one, other = Desk(), Desk()
        for line in ("kind 0", "write 0 0 first: *>0", "ranks 4>", "put 0 a+b", "meet 1 0 1"):
            one.say(line)
        self.assertEqual(state(other), ("kind; sided", "0", "0", [None] * 10))
        self.check_refused(other, "back", NoDeed)
        other.say("kind")
        self.assertEqual(one.say("show"), "kind; kind 0; sided; 0 0 first: *>0")

    def test_the_same_lines_have_the_same_answers(self):
        random = Random(5)
        lines = [f"house {STARTS[2]}"] + [some_line(random) for _ in range(100)]
        first = [answer(desk, line) for desk in [Desk()] for line in lines]
        for _ in range(2):
            self.assertEqual([answer(desk, line) for desk in [Desk()] for line in lines], first)

    def test_all_letters(self):
        desk = desk_of(*["kind"] * 5)
        for kind, place in product(range(6), (0, 9)):
            self.check_said(desk, (f"put {place} {'abcdef'[kind]}", "abcdef"[kind]))
        desk.say("write 5 0 first: *>5")
        self.check_said(desk, ("put 0 f+e", "f"), ("meet 5 0 0", "f"))
        self.check_refused(desk, "put 0 e+f", Nobody, at=0)


if __name__ == "__main__":
    unittest.main()

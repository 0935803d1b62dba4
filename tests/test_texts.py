"""Houses written and read (9.1)."""

import inspect
import re
import unittest
from functools import lru_cache
from itertools import product
from random import Random

from dealclerks import texts
from dealclerks.books import is_house, is_mirrors
from dealclerks.errors import NoHouse, NoText
from tests.houses import DIAMOND, FIRST, MIRRORS, MIXED, PLACE, SECOND, mixed_house, pages, right_books, some_house
from tests.refusals import check, check_no_house
from tests.samples import DEEP, LINED, NO_FAMILIES, UNLINED

MIXED_TEXT = (
    "kind; kind 0; kind 0; kind 1 2; sided; mirror 2; mirror 1; mirror 3; "
    "0 0 first: 3>2 1>on *>0; 0 2 first: *>up *>up *>up *>up *>up *>up; 1 0 first: 3>1 *>on; 2 1 first: *>on; "
    "3 0 second: 0>3 *>up; 3 3 place: 3>3")
OTHERS = {-1: "*"}
WHATS = {-1: "up", -2: "on"}


def written_by_the_words(house):
    """The text of a house, as 9.1 tells it."""
    family, mirrors, books = house
    parts = []
    for elders in family:
        part = "kind"
        for elder in elders:
            part += f" {elder}"
        parts.append(part)
    for mirror in mirrors:
        parts.append("sided" if mirror == -1 else f"mirror {mirror}")
    for page in sorted(books):
        part = "{} {} {}:".format(*page)
        for other, what in books[page]:
            part += f" {OTHERS.get(other, other)}>{WHATS.get(what, what)}"
        parts.append(part)
    return "; ".join(parts)


@lru_cache(None)
def part_by_the_words(part):
    """What a part tells, loosely: (sort, value), None where it is no part of any house."""
    if re.fullmatch("kind( [0-9])*", part):
        return "kind", tuple(int(word) for word in part.split(" ")[1:])
    if re.fullmatch("sided|mirror [0-9]", part):
        return "sign", -1 if part == "sided" else int(part[-1])
    if re.fullmatch(r"[0-9] [0-9] (first|second|place):( (\*|[0-9])>(on|up|[0-9]))+", part):
        head, cases = part.split(": ")
        kind, sign, side = head.split(" ")
        split = [case.split(">") for case in cases.split(" ")]
        words = {"*": -1, "up": -1, "on": -2}
        writing = tuple(tuple(words[word] if word in words else int(word) for word in case) for case in split)
        return "writing", ((int(kind), int(sign), side), writing)
    return None


def house_by_the_words(parts):
    """The house that the parts write, None where they write none."""
    told = [part_by_the_words(part) for part in parts]
    if None in told:
        return None
    family = tuple(value for sort, value in told if sort == "kind")
    mirrors = tuple(value for sort, value in told if sort == "sign")
    books = dict(value for sort, value in told if sort == "writing")
    house = (family, mirrors, books)
    return house if is_house(house) and written_by_the_words(house) == "; ".join(parts) else None


MORE_SIGNS = [list(more) for length in range(1, 5)
              for more in product(("sided", "mirror 0", "mirror 1", "mirror 2", "mirror 3"), repeat=length)]


def goes_on(parts):
    """Whether some house is written as these parts and any further ones: signs are all that may be due."""
    if house_by_the_words(parts) is not None:
        return True
    if any(":" in part for part in parts) or part_by_the_words(parts[-1]) is None:
        return False
    return any(house_by_the_words(parts + more) is not None for more in MORE_SIGNS)


def place_by_the_words(text):
    """The number with which the text is refused; None where it is read."""
    parts = text.split("; ")
    if house_by_the_words(parts) is not None:
        return None
    for at in range(len(parts)):
        if not goes_on(parts[:at + 1]):
            return at
    return len(parts)


def spoilt_by_parts(parts):
    """Texts with a part left out, twice, exchanged with another one, and cut off behind each."""
    for at in range(len(parts)):
        yield "; ".join(parts[:at] + parts[at + 1:])
        yield "; ".join(parts[:at + 1] + parts[at:])
        yield "; ".join(parts[:at])
        yield "; ".join(parts[:at] + [""] + parts[at:])
        yield "; ".join(parts[:at] + [parts[at] + " "] + parts[at + 1:])
        yield "; ".join(parts[:at] + [" " + parts[at]] + parts[at + 1:])
        for to in range(at):
            changed = list(parts)
            changed[at], changed[to] = parts[to], parts[at]
            yield "; ".join(changed)


def spoilt_by_signs(text, marks):
    """Texts with a sign put in, out, or in the place of one, and cut off at each."""
    for at in range(len(text) + 1):
        yield text[:at]
        yield text[:at] + text[at + 1:]
        for mark in marks:
            yield text[:at] + mark + text[at:]
            yield text[:at] + mark + text[at + 1:]


class TextsTest(unittest.TestCase):
    def check_no_text(self, text, at):
        with self.assertRaises(NoText, msg=text) as caught:
            texts.house_read(text)
        self.assertIs(type(caught.exception), NoText)
        self.assertIs(type(caught.exception.at), int)
        self.assertEqual(caught.exception.at, at, text)

    def check_read(self, text):
        """That the text is read, or refused, as the words tell."""
        at = place_by_the_words(text)
        if at is None:
            self.assertEqual(texts.house_read(text), house_by_the_words(text.split("; ")))
        else:
            self.check_no_text(text, at)


class InterfaceTest(unittest.TestCase):
    def test_names_of_arguments(self):
        self.assertEqual(list(inspect.signature(texts.house_text).parameters), ["house"])
        self.assertEqual(list(inspect.signature(texts.house_read).parameters), ["text"])

    def test_calls_by_names(self):
        self.assertEqual(texts.house_text(house=(((),), (-1,), {})), "kind; sided")
        self.assertEqual(texts.house_read(text="kind; mirror 0"), (((),), (0,), {}))


class WrittenTest(TextsTest):
    def test_no_house(self):
        check_no_house(self, texts.house_text, [])

    def test_sign_for_sign(self):
        self.assertEqual(texts.house_text(mixed_house()), MIXED_TEXT)
        house = (((), ()), (1, 0), {(1, 1, PLACE): ((-1, -2), (1, -1), (0, 1)), (1, 1, FIRST): ((-1, 0),)})
        self.assertEqual(texts.house_text(house), "kind; kind; mirror 1; mirror 0; 1 1 first: *>0; 1 1 place: *>on 1>up 0>1")

    def test_sides_rise_as_texts(self):
        house = (((),), (-1,), {(0, 0, side): ((-1, 0),) for side in (SECOND, PLACE, FIRST)})
        self.assertEqual(texts.house_text(house), "kind; sided; 0 0 first: *>0; 0 0 place: *>0; 0 0 second: *>0")

    def test_as_the_words_tell(self):
        for seed in range(200):
            house = some_house(seed)
            self.assertEqual(texts.house_text(house), written_by_the_words(house))

    def test_the_house_stays(self):
        house = mixed_house()
        texts.house_text(house)
        self.assertEqual(repr(house), repr(mixed_house()))

    def test_whatever_order_the_books_have(self):
        books = right_books()
        turned = {page: books[page] for page in list(books)[::-1]}
        self.assertEqual(texts.house_text((DIAMOND, MIXED, turned)), MIXED_TEXT)


class ReadTest(TextsTest):
    def test_what_was_written(self):
        for seed in range(300):
            house = some_house(seed)
            self.assertEqual(texts.house_read(texts.house_text(house)), house)
        self.assertEqual(texts.house_read(MIXED_TEXT), mixed_house())

    def test_the_longest(self):
        family, mirrors = ((), (0,), (1,), (2,), (3,), (4, 3, 2, 1, 0)), (-1,) * 4
        house = (family, mirrors, {page: ((5, -2),) * 6 for page in pages(family, mirrors)})
        text = texts.house_text(house)
        self.assertLess(len(text), 5000)
        self.assertEqual(texts.house_read(text), house)

    def test_all_families_and_mirrors(self):
        for family, mirrors in product(LINED, MIRRORS):
            house = (family, mirrors, {})
            self.assertEqual(texts.house_read(written_by_the_words(house)), house)

    def test_a_new_house_each_time(self):
        told = texts.house_read(MIXED_TEXT)
        told[2].clear()
        again = texts.house_read(MIXED_TEXT)
        self.assertEqual(again, mixed_house())
        self.assertEqual([type(part) for part in again], [tuple, tuple, dict])

    def test_kinds_of_values(self):
        family, mirrors, books = texts.house_read(MIXED_TEXT)
        self.assertEqual({type(part) for part in mirrors} | {type(part) for row in family for part in row}, {int})
        for page, writing in books.items():
            self.assertEqual([type(part) for part in page], [int, int, str])
            self.assertEqual({type(part) for case in writing for part in case}, {int})


class NoTextTest(TextsTest):
    def test_no_text(self):
        for thing in NO_FAMILIES + DEEP + [mixed_house(), [MIXED_TEXT], (MIXED_TEXT,), {"kind; sided": "kind; sided"}]:
            if not isinstance(thing, str):
                self.check_no_text(thing, -1)

    def test_too_long(self):
        for many in (5001, 5002, 6000):
            self.check_no_text("kind; sided" + " " * (many - 11), -1)
            self.check_no_text("~" * many, -1)
            self.check_no_text(("kind; " * 1000)[:many], -1)
        self.check_no_text("kind; sided" + " " * 4989, 1)
        self.check_no_text("~" * 5000, 0)
        self.check_no_text(("kind; " * 1000)[:5000], 6)

    def test_where(self):
        for text, at in (
                ("", 0), (" ", 0), ("; ", 0), ("kind", 1), ("kind; ", 1), ("kind; kind", 2), ("sided", 0), ("mirror 0", 0),
                ("kind; sided; ", 2), ("kind; sided;", 1), ("kind;sided", 0), ("kind;  sided", 1), ("kind ; sided", 0),
                (" kind; sided", 0), ("kind; sided ", 1), ("Kind; sided", 0), ("kinds; sided", 0), ("kind; Sided", 1),
                ("kind\n; sided", 0), ("kind; sided\n", 1), ("kind;\tsided", 0), ("kind 0; sided", 0), ("kind 1; sided", 0),
                ("kind; kind 0; sided; kind", 3), ("kind; sided; kind", 2), ("kind; sided; sided; kind", 3),
                ("kind; kind 1; sided", 1), ("kind; kind 00; sided", 1), ("kind; kind  0; sided", 1), ("kind; kind ; sided", 1),
                ("kind; kind 0 ; sided", 1), ("kind; kind 0 0; sided", 1), ("kind; kind -1; sided", 1),
                ("kind; kind a; sided", 1), ("kind; kind +0; sided", 1), ("kind; kind 0; kind 0 1; sided", 2),
                ("kind; kind; kind; kind; kind; kind; kind; sided", 6), ("kind; " * 6 + "sided", None),
                ("kind; sided; sided; sided; sided; sided", 5), ("kind; sided; sided; sided; sided", None)):
            if at is None:
                self.assertTrue(is_house(texts.house_read(text)))
            else:
                self.check_no_text(text, at)
            self.assertEqual(place_by_the_words(text), at, text)

    def test_mirrors(self):
        for text, at in (
                ("mirror 0", None), ("mirror 1", 2), ("mirror 1; mirror 0", None), ("mirror 1; sided", 2), ("mirror 4", 1),
                ("mirror 3; sided", 3), ("mirror 3; sided; sided", 4), ("mirror 3; sided; sided; mirror 0", None),
                ("mirror 3; sided; sided; sided", 4), ("mirror 3; mirror 3", 2), ("mirror 2; mirror 2", 2),
                ("mirror 3; mirror 0", 2), ("mirror 3; mirror 2; mirror 1; mirror 0", None), ("mirror 1; mirror 1", 2),
                ("sided; mirror 0", 2), ("sided; mirror 1", None), ("sided; mirror 2", 3), ("sided; sided; mirror 1", 3),
                ("mirror 2; mirror 3", 3), ("mirror 2; mirror 3; mirror 0", 4), ("mirror 2; mirror 3; mirror 1", 3),
                ("mirror 9", 1), ("mirror -1", 1), ("mirror", 1), ("mirror ", 1), ("mirror 00", 1), ("mirror 0 0", 1),
                ("mirror 1; 0 0 first: *>0", 2), ("mirror 3; sided; 0 1 first: *>0", 3), ("mirror 1; kind", 2),
                ("mirror 0; sided; sided; mirror 4", 4), ("mirror 0; sided; sided; mirror 2", 4), ("sided 0", 1)):
            wanted = at
            text = "kind; " + text
            if wanted is None:
                self.assertTrue(is_house(texts.house_read(text)))
            else:
                self.check_no_text(text, wanted)
            self.assertEqual(place_by_the_words(text), wanted, text)

    def test_all_beginnings_of_mirrors(self):
        rights = [mirrors for length in range(1, 5) for mirrors in product(range(-1, 4), repeat=length) if is_mirrors(mirrors)]
        for length in range(1, 6):
            for mirrors in product(range(-1, 5), repeat=length):
                wrong = [at for at in range(length) if not any(right[:at + 1] == mirrors[:at + 1] for right in rights)]
                text = written_by_the_words((((),), mirrors, {}))
                if wrong:
                    self.check_no_text(text, 1 + wrong[0])
                elif mirrors in rights:
                    self.assertEqual(texts.house_read(text), (((),), mirrors, {}))
                else:
                    self.check_no_text(text, 1 + length)
                    self.check_no_text(text + "; 0 0 first: *>0", 1 + length)

    def test_elders_without_a_line(self):
        for family, kind in UNLINED:
            for mirrors in ((-1,), (1, 0)):
                self.check_no_text(written_by_the_words((family, mirrors, {})), kind)

    def test_writings(self):
        head = "kind; kind; sided; mirror 1; "
        for part in ("0 0 first: *>0", "1 1 place: 1>on 0>up", "0 0 second: *>0 *>0 *>0 *>0 *>0 *>0"):
            self.assertTrue(is_house(texts.house_read(head + part)))
        for part in ("0 1 second: *>0", "2 0 first: *>0", "0 2 first: *>0", "0 0 third: *>0", "0 0 First: *>0", "0 0: *>0",
                     "0 0 first *>0", "0 0 first:*>0", "0 0 first:  *>0", "0 0 first: *>0 ", "0 0 first: ", "0 0 first:",
                     "0 0 first", "0  0 first: *>0", "0 0  first: *>0", "0 0 first : *>0", "00 0 first: *>0",
                     "0 00 first: *>0", "0 0 first: 00>0", "0 0 first: 0>00", "0 0 first: 2>0", "0 0 first: 0>2",
                     "0 0 first: -1>0", "0 0 first: 0>-1", "0 0 first: 0>-2", "0 0 first: 0>*", "0 0 first: on>0",
                     "0 0 first: up>0", "0 0 first: >0", "0 0 first: 0>", "0 0 first: >", "0 0 first: 0", "0 0 first: 0>0>0",
                     "0 0 first: 0>On", "0 0 first: 0>upp", "0 0 first: **>0", "0 0 first: 0>0  0>0", "0 0 first: 0>0: 0>0",
                     "0 0 first: " + " ".join(["*>0"] * 7), "0 0 first: 0 > 0", "0 0 0 first: *>0", "0 first: *>0",
                     "first: *>0", ": *>0", "a 0 first: *>0", "0 a first: *>0", "0 0 first:\t*>0", "0 0 first: *>0\n",
                     "0 0 first: *>0;", "+0 0 first: *>0", "-0 0 first: *>0", "* 0 first: *>0"):
            self.check_no_text(head + part, 4)
            self.check_no_text(head + part + "; 1 1 place: *>0", 4)
            self.check_no_text(head + "0 0 first: *>0; " + part, 5)

    def test_writings_not_rising(self):
        family, mirrors = ((), ()), (-1, 1)
        rising = sorted(pages(family, mirrors))
        parts = ["{} {} {}: *>0".format(*page) for page in rising]
        head = ["kind", "kind", "sided", "mirror 1"]
        for one, other in product(range(len(rising)), repeat=2):
            text = "; ".join(head + [parts[one], parts[other]])
            if one < other:
                self.assertEqual(list(texts.house_read(text)[2]), [rising[one], rising[other]])
            else:
                self.check_no_text(text, 5)
        self.check_no_text("; ".join(head + parts + parts[-1:]), 4 + len(parts))

    def test_parts_left_out_twice_or_exchanged(self):
        for text in (MIXED_TEXT, texts.house_text(some_house(9)), texts.house_text(some_house(20)),
                     texts.house_text(some_house(33)), "kind; sided", "kind; kind 0; mirror 1; mirror 0; 0 1 place: 1>1"):
            for spoilt in dict.fromkeys(spoilt_by_parts(text.split("; ")[:24])):
                self.check_read(spoilt)

    def test_signs_put_in_out_or_instead(self):
        for text in ("kind; kind 0; mirror 1; mirror 0; 0 1 place: 1>on *>up; 1 0 first: *>1", "kind; sided; 0 0 second: 0>0"):
            for spoilt in dict.fromkeys(spoilt_by_signs(text, "0123 ;:>*k\n-")):
                self.check_read(spoilt)
        for spoilt in dict.fromkeys(spoilt_by_signs(MIXED_TEXT, " 0")):
            self.check_read(spoilt)

    def test_drawn_parts(self):
        random = Random(1)
        heap = ["kind", "kind 0", "kind 1 0", "kind 0 1", "sided", "mirror 0", "mirror 1", "mirror 2", "mirror 3", "",
                "0 0 first: *>0", "0 1 first: 1>on", "1 0 place: *>up", "1 1 second: 0>0"]
        for _ in range(2500):
            parts = ["kind"] * random.randint(0, 2) + random.choices(heap, k=random.randint(1, 4))
            if random.random() < 0.5:
                parts.sort(key=lambda part: (not part.startswith("kind"), part[:1].isdigit(), part[:1].isdigit() and part))
            self.check_read("; ".join(parts))


class RefusedTest(unittest.TestCase):
    def test_what_a_house_text_refuses(self):
        for thing in (None, MIXED_TEXT, (), [DIAMOND, MIXED, {}], (DIAMOND, MIXED, {(0, 1, SECOND): ((0, 0),)})):
            check(self, NoHouse, texts.house_text, [thing])


if __name__ == "__main__":
    unittest.main()

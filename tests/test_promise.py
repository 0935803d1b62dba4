"""The promise (7.1 to 7.5)."""

import inspect
import unittest
from itertools import product
from random import Random

from dealclerks import promise
from dealclerks.asking import ask
from dealclerks.errors import NoElders, NoHouse, TooMany
from dealclerks.lines import callers, line_of
from dealclerks.meeting import itself, meets
from tests.houses import (
    DIAMOND, FIRST, MIXED, SECOND, Wares, made_of, mixed_house, pages, right_books, some_house, some_keeping_house,
    some_writing)
from tests.refusals import RIGHT, WRONG, check, check_no_house, check_order
from tests.samples import DEEP, LINED, PLAIN, WHATEVER

SIDED, OWN, TURNED = (-1,), (0,), (1, 0)
ARGUMENTS = {
    "both": ["house", "one", "sign", "other"], "first_odd": ["house", "sign"], "table": ["house", "sign"],
    "table_holds": ["house", "sign", "thing"], "grown": ["house", "elders"], "odd_many": ["house", "sign"],
}
# Two kinds, one under the other; whoever meets, kind 1 is made.
KEEPING = (((), (0,)), SIDED, {(0, 0, FIRST): ((-1, 1),), (0, 0, SECOND): ((1, -1), (-1, 1))})


def both_by_python(wares, one, other):
    """What both askings make, by Python's own methods."""
    fore = wares.ask("__add__", one, other)[1]
    same = one == other and isinstance(one, int)
    return fore, (-1 if same else wares.ask("__radd__", other, one)[1])


def odd_by_the_words(house, sign):
    """All meetings that aren't clear, in the order that 7.2 tells."""
    wares = Wares(house, sign)
    everyone = callers(house[0])
    odd = []
    for one in everyone:
        if made_of(wares.itself(one)) is None:
            odd.append((one,))
        for other in everyone:
            if one == other and isinstance(one, int):
                continue
            fore, back = both_by_python(wares, one, other)
            kinds = {fore, back} - {-1}
            if len(kinds) != 1:
                odd.append((one, other))
    return odd


def small(house):
    return len(house[0]) <= 4


def near_houses(random, house):
    """The house with one writing more, fewer or otherwise."""
    family, mirrors, books = house
    page = random.choice(pages(family, mirrors))
    yield family, mirrors, {**books, page: some_writing(random, len(family))}
    yield family, mirrors, {**books, page: ((-1, random.randrange(len(family))),)}
    for page in random.sample(sorted(books), min(2, len(books))):
        yield family, mirrors, {key: books[key] for key in books if key != page}


def keeping_houses(many, most_kinds=6):
    for seed in range(many):
        for sign in range(4):
            house = some_keeping_house(seed, sign)
            if house is not None and len(house[0]) <= most_kinds:
                yield house, sign


class InterfaceTest(unittest.TestCase):
    def test_names_of_arguments(self):
        for name, arguments in ARGUMENTS.items():
            self.assertEqual(list(inspect.signature(getattr(promise, name)).parameters), arguments)

    def test_calls_by_names(self):
        self.assertEqual(promise.both(other=1, sign=0, one=0, house=KEEPING), (1, 1))
        self.assertIsNone(promise.first_odd(sign=0, house=KEEPING))
        self.assertEqual(promise.odd_many(sign=0, house=KEEPING), 0)
        told = promise.table(sign=0, house=KEEPING)
        self.assertIs(promise.table_holds(thing=told, sign=0, house=KEEPING), True)
        self.assertEqual(promise.grown(elders=(1,), house=KEEPING)[0], ((), (0,), (1,)))


class RefusalsTest(unittest.TestCase):
    def test_no_house(self):
        for name, words in {"both": ["caller", "sign", "caller"], "first_odd": ["sign"], "odd_many": ["sign"],
                            "table": ["sign"], "grown": ["elders"]}.items():
            check_no_house(self, getattr(promise, name), words)
        check_no_house(self, lambda house: promise.table_holds(house, 0, None), [])
        check_no_house(self, lambda house: promise.table_holds(house, 9, []), [])

    def test_order_of_the_arguments(self):
        check_order(self, promise.both, ["caller", "sign", "caller"])
        check_order(self, promise.grown, ["elders"])
        for name in ("first_odd", "odd_many", "table"):
            check_order(self, getattr(promise, name), ["sign"])
        for thing in (None, [], 0):
            check_order(self, lambda house, sign: promise.table_holds(house, sign, thing), ["sign"])


class BothTest(unittest.TestCase):
    def test_sided(self):
        house = (((), ()), SIDED, {(0, 0, FIRST): ((1, 0),), (1, 0, SECOND): ((-1, 1),)})
        self.assertEqual(promise.both(house, 0, 0, 1), (0, 1))
        self.assertEqual(promise.both(house, 1, 0, 0), (-1, -1))
        self.assertEqual(promise.both(house, 0, 0, 0), (-1, -1))
        self.assertEqual(promise.both(house, (0,), 0, (1,)), (0, 1))
        self.assertEqual(promise.both(house, (1,), 0, (1,)), (-1, 1))
        self.assertEqual(promise.both(house, (0, 1), 0, (0, 1)), (0, 1))

    def test_the_same_kind_twice_has_no_back_asking(self):
        house = (((),), SIDED, {(0, 0, FIRST): ((-1, 0),), (0, 0, SECOND): ((-1, 0),)})
        self.assertEqual(promise.both(house, 0, 0, 0), (0, -1))
        self.assertEqual(promise.both(house, (0,), 0, (0,)), (0, 0))
        self.assertEqual(promise.both(house, 0, 0, (0,)), (0, 0))

    def test_mirrored(self):
        house = (((), ()), TURNED, {(0, 0, FIRST): ((-1, 0),), (1, 1, FIRST): ((0, 1),)})
        self.assertEqual(promise.both(house, 0, 0, 1), (0, 1))
        self.assertEqual(promise.both(house, 1, 1, 0), (1, 0))
        self.assertEqual(promise.both(house, 0, 1, 1), (-1, -1))
        house = (((), ()), OWN, {(0, 0, FIRST): ((-1, 0),), (1, 0, FIRST): ((0, 1),)})
        self.assertEqual(promise.both(house, 0, 0, 1), (0, 1))
        self.assertEqual(promise.both(house, 1, 0, 0), (1, 0))

    def test_not_by_who_goes_ahead(self):
        # The back asking goes ahead here; both tells the fore one first all the same.
        house = (((), (0,)), SIDED, {(0, 0, FIRST): ((-1, 0),), (1, 0, SECOND): ((-1, 1),)})
        self.assertEqual(promise.both(house, 0, 0, 1), (0, 1))
        self.assertEqual(meets(house, 0, 0, 1), 1)

    def test_as_python_asks(self):
        for seed in range(78):
            house = some_house(seed)
            everyone = callers(house[0])
            pairs = list(product(everyone, repeat=2))
            pairs = pairs[::len(pairs) // 25 + 1] + [(one, one) for one in everyone[::9]]
            for sign in range(len(house[1])):
                wares = Wares(house, sign)
                back = (sign, SECOND) if house[1][sign] == -1 else (house[1][sign], FIRST)
                for one, other in pairs:
                    told = promise.both(house, one, sign, other)
                    self.assertEqual(told, both_by_python(wares, one, other))
                    self.assertIs(type(told), tuple)
                    self.assertEqual(told[0], ask(house, one, sign, FIRST, other)[1])
                    if isinstance(one, tuple) or one != other:
                        self.assertEqual(told[1], ask(house, other, *back, one)[1])


class OddTest(unittest.TestCase):
    def check_sign(self, house, sign):
        odd = odd_by_the_words(house, sign)
        self.assertEqual(promise.first_odd(house, sign), odd[0] if odd else None, (house, sign))
        self.assertEqual(promise.odd_many(house, sign), len(odd), (house, sign))
        return len(odd)

    def test_itself_ahead(self):
        house = (((),), SIDED, {})
        self.assertEqual(promise.first_odd(house, 0), (0,))
        self.assertEqual(promise.odd_many(house, 0), 5)
        house = (((), ()), SIDED, {(0, 0, FIRST): ((-1, 0),)})
        self.assertEqual(promise.first_odd(house, 0), (1,))

    def test_one_and_one(self):
        # Kind 0 meets itself, and rows under it do, but two kinds to come have two answers.
        house = (((),), SIDED, {(0, 0, FIRST): ((-1, 0),), (0, 0, SECOND): ((-1, 0),)})
        self.assertIsNone(promise.first_odd(house, 0))
        house = (((), ()), SIDED, {(kind, 0, FIRST): ((-1, 0),) for kind in range(2)} | {(0, 0, SECOND): ((0, 1), (-1, 0))})
        self.assertEqual(promise.first_odd(house, 0), (0, (0,)))
        self.assertEqual(promise.odd_many(house, 0), len(odd_by_the_words(house, 0)))

    def test_two_kinds_to_come_of_one_row(self):
        house = (((), ()), SIDED, {
            (0, 0, FIRST): ((0, 0), (1, 1)), (0, 0, SECOND): ((0, -2),), (1, 0, FIRST): ((-1, 1),), (1, 0, SECOND): ((1, 1),)})
        self.assertEqual(promise.first_odd(house, 0), ((0, 1), (0, 1)))
        self.check_sign(house, 0)

    def test_a_row_with_a_kind(self):
        house = (((), ()), SIDED, {
            (0, 0, FIRST): ((-1, 0),), (0, 0, SECOND): ((0, -2),), (1, 0, FIRST): ((1, 1), (-1, 0)), (1, 0, SECOND): ((1, 1),)})
        self.assertEqual(promise.first_odd(house, 0), ((0, 1), 1))
        self.check_sign(house, 0)

    def test_a_row_alone_with_itself(self):
        # Of a row that comes of both kinds the fore asking gives up; the back one answers where there is one.
        house = (((), ()), SIDED, {
            (0, 0, FIRST): ((1, -1), (-1, 0)), (0, 0, SECOND): ((-1, 0),), (1, 0, FIRST): ((0, -1), (-1, 0)),
            (1, 0, SECOND): ((-1, 0),)})
        self.assertEqual(promise.first_odd(house, 0), ((0, 1),))
        self.assertEqual(self.check_sign(house, 0), 2)

    def test_unlike_answers_and_none(self):
        house = (((), ()), SIDED, {(0, 0, FIRST): ((-1, 0),), (1, 0, FIRST): ((-1, 1),), (1, 0, SECOND): ((-1, 1),)})
        self.assertEqual(promise.first_odd(house, 0), (0, 1))
        house = (((), ()), SIDED, {(0, 0, FIRST): ((-1, 0),), (1, 0, FIRST): ((1, 1),)})
        self.assertEqual(promise.first_odd(house, 0), (1, 0))

    def test_a_callers_meetings_in_their_order(self):
        house = (((), (0,)), SIDED, {(0, 0, FIRST): ((-1, 0),), (1, 0, SECOND): ((-1, 1),)})
        self.assertEqual(promise.first_odd(house, 0), (0, 1))
        self.assertEqual(self.check_sign(house, 0), promise.odd_many(house, 0))

    def test_kept(self):
        kept = 0
        for house, sign in keeping_houses(39):
            self.assertIsNone(promise.first_odd(house, sign), (house, sign))
            self.assertEqual(promise.odd_many(house, sign), 0)
            if small(house):
                self.assertEqual(odd_by_the_words(house, sign), [])
            kept += 1
        self.assertGreater(kept, 50)

    def test_near_ones(self):
        random = Random(2)
        odd = even = 0
        for house, sign in keeping_houses(78, most_kinds=3):
            for near in near_houses(random, house):
                many = self.check_sign(near, sign)
                odd += many > 0
                even += many == 0
        self.assertGreater(odd, 20)
        self.assertGreater(even, 20)

    def test_drawn_ones(self):
        for seed in range(104):
            house = some_house(seed)
            if small(house):
                for sign in range(len(house[1])):
                    self.check_sign(house, sign)

    def test_six_kinds(self):
        random = Random(3)
        for family, mirrors in ((((),) * 6, SIDED), (LINED[7], OWN), (LINED[8], TURNED)):
            books = {page: some_writing(random, 6) for page in pages(family, mirrors)}
            self.check_sign((family, mirrors, books), 0)


class TableTest(unittest.TestCase):
    def test_small(self):
        self.assertEqual(promise.table(KEEPING, 0), [((0,), (1, 1)), ((1, 0), (1, 1))])
        house = (((),), SIDED, {(0, 0, FIRST): ((-1, 0),)})
        self.assertEqual(promise.table(house, 0), [((0,), (0,))])
        house = (((), ()), SIDED, {(kind, 0, FIRST): ((-1, kind),) for kind in range(2)})
        self.assertEqual(promise.table(house, 0), [
            ((0,), (0, 0, 0, 0)), ((0, 1), (0, 0, 0, 0)), ((1,), (1, 1, 1, 1)), ((1, 0), (1, 1, 1, 1))])
        self.assertIsNone(promise.table((((),), SIDED, {}), 0))

    def test_by_the_back_asking(self):
        # Of two unlike callers the back asking answers, of one with itself the fore one.
        house = (((), ()), SIDED, {(0, 0, FIRST): ((0, 1),), (1, 0, FIRST): ((1, 1),), (0, 0, SECOND): ((1, 1),),
                                   (1, 0, SECOND): ((0, 1),)})
        told = promise.table(house, 0)
        self.assertEqual({kind for told_line, made in told for kind in made}, {1})

    def test_none_where_the_promise_is_not_kept(self):
        for seed in range(60):
            house = some_house(seed)
            if small(house):
                for sign in range(len(house[1])):
                    kept = promise.first_odd(house, sign) is None
                    self.assertEqual(promise.table(house, sign) is None, not kept)

    def test_rising_and_each_line_once(self):
        for house, sign in keeping_houses(26):
            told = promise.table(house, sign)
            lines = [row[0] for row in told]
            self.assertEqual(lines, sorted({line_of(house[0], caller) for caller in callers(house[0])}))
            self.assertEqual({len(row[1]) for row in told}, {len(told)})
            self.assertIs(type(told), list)
            self.assertEqual({type(row) for row in told}, {tuple})
            self.assertEqual({type(half) for row in told for half in row}, {tuple})
            self.assertEqual({type(part) for row in told for half in row for part in half}, {int})

    def test_what_meetings_make(self):
        for house, sign in keeping_houses(26, most_kinds=4):
            told = promise.table(house, sign)
            lines = [row[0] for row in told]
            wares = Wares(house, sign)
            everyone = callers(house[0])
            for one, other in product(everyone, repeat=2):
                made = dict(told)[line_of(house[0], one)][lines.index(line_of(house[0], other))]
                if isinstance(one, tuple) or one != other:
                    self.assertEqual(made, made_of(wares.asked(one, other)))
            for one in everyone:
                told_line = line_of(house[0], one)
                self.assertEqual(dict(told)[told_line][lines.index(told_line)], made_of(wares.itself(one)))

    def test_meetings_of_six_kinds(self):
        random = Random(4)
        for house, sign in keeping_houses(26):
            if len(house[0]) == 6:
                told = promise.table(house, sign)
                lines = [row[0] for row in told]
                everyone = callers(house[0])
                for one, other in zip(random.choices(everyone, k=30), random.choices(everyone, k=30)):
                    made = dict(told)[line_of(house[0], one)][lines.index(line_of(house[0], other))]
                    self.assertEqual(made, meets(house, one, sign, other))

    def test_a_new_list_each_time(self):
        told = promise.table(KEEPING, 0)
        told[0] = None
        told.append(None)
        self.assertEqual(promise.table(KEEPING, 0), [((0,), (1, 1)), ((1, 0), (1, 1))])


def spoilt_tables(told):
    """What isn't the table, though much of it is."""
    rows = range(len(told))
    yield tuple(told)
    yield told[:-1]
    yield told[1:]
    yield []
    yield told + told[:1]
    yield told[:1] + told
    yield told + [told[-1]]
    yield {row[0]: row[1] for row in told}
    yield [told]
    if len(told) > 1:
        yield told[::-1]
    for at in rows:
        told_line, made = told[at]
        for row in ((told_line,), (made, told_line), (told_line, made, made), [told_line, made], (list(told_line), made),
                    (told_line, list(made)), (told_line, made[:-1]), (told_line, made + (0,)), (told_line, None), None,
                    (told_line[:-1], made), (told_line + (0,), made), (told_line[::-1] + (5,), made), told_line, made,
                    (tuple(bool(kind) if kind in (0, 1) else str(kind) for kind in told_line), made),
                    (told_line, tuple(bool(kind) if kind in (0, 1) else None for kind in made)), {told_line: made}):
            # Of one kind alone a row may be the same turned round.
            if repr(row) != repr(told[at]):
                yield told[:at] + [row] + told[at + 1:]
        for place in range(len(made)):
            for kind in (made[place] + 1, made[place] - 1, -1, None, str(made[place]), (made[place],)):
                if kind != made[place]:
                    yield told[:at] + [(told_line, made[:place] + (kind,) + made[place + 1:])] + told[at + 1:]


class TableHoldsTest(unittest.TestCase):
    def test_what_table_tells(self):
        for house, sign in keeping_houses(13):
            told = promise.table(house, sign)
            before = repr(told)
            self.assertIs(promise.table_holds(house, sign, told), True)
            self.assertIs(promise.table_holds(house, sign, [(row[0], row[1]) for row in told]), True)
            self.assertEqual(repr(told), before)

    def test_spoilt(self):
        for house, sign in list(keeping_houses(26, most_kinds=2)) + [(KEEPING, 0)]:
            told = promise.table(house, sign)
            for thing in spoilt_tables(told):
                self.assertIs(promise.table_holds(house, sign, thing), False, (house, sign, thing))

    def test_truths(self):
        told = promise.table(KEEPING, 0)
        self.assertEqual(told, [((0,), (1, 1)), ((1, 0), (1, 1))])
        for thing in ([((False,), (1, 1)), ((1, 0), (1, 1))], [((0,), (True, 1)), ((1, 0), (1, 1))],
                      [((0,), (1, 1)), ((True, 0), (1, 1))], [((0,), (1, 1)), ((1, False), (1, 1))],
                      [((0,), (1, 1)), ((1, 0), (1, True))]):
            self.assertEqual(thing, told)
            self.assertIs(promise.table_holds(KEEPING, 0, thing), False)
        self.assertIs(promise.table_holds(KEEPING, 0, [((0,), (1, 1)), ((1, 0), (1, 1))]), True)

    def test_whatever_is_handed_in(self):
        silent = (((), ()), SIDED, {})
        for thing in WHATEVER + PLAIN + DEEP + [[None], [()], [((), ())], [((0,), (0,))]]:
            self.assertIs(promise.table_holds(KEEPING, 0, thing), False)
            self.assertIs(promise.table_holds(silent, 0, thing), False)

    def test_another_house_or_sign(self):
        house = (KEEPING[0], (-1, -1), {**KEEPING[2], (0, 1, FIRST): ((-1, 0),)})
        told = promise.table(house, 0), promise.table(house, 1)
        self.assertNotEqual(*told)
        for sign, at in product(range(2), repeat=2):
            self.assertIs(promise.table_holds(house, sign, told[at]), sign == at)

    def test_of_a_house_that_does_not_keep_it(self):
        told = promise.table(KEEPING, 0)
        odd = (KEEPING[0], SIDED, {**KEEPING[2], (1, 0, SECOND): ((-1, 0),)})
        self.assertIsNotNone(promise.first_odd(odd, 0))
        for thing in (told, [], None, [((0,), (1, 1)), ((1, 0), (1, None))]):
            self.assertIs(promise.table_holds(odd, 0, thing), False)


class GrownTest(unittest.TestCase):
    def test_each_row_of_elders(self):
        for seed in range(26):
            house = some_house(seed)
            everyone = callers(house[0])
            many = len(house[0])
            rows = everyone[many:]
            for row in rows[::len(rows) // 8 + 1]:
                if many == 6:
                    with self.assertRaises(TooMany) as caught:
                        promise.grown(house, row)
                    self.assertEqual((caught.exception.many, caught.exception.most), (7, 6))
                    continue
                told = promise.grown(house, row)
                self.assertEqual(told, ((*house[0], row), house[1], house[2]))
                for sign in range(len(house[1])):
                    self.assertEqual(itself(told, many, sign), itself(house, row, sign))
                    for caller in everyone[::len(everyone) // 10 + 1] + list(range(many)):
                        self.assertEqual(meets(told, caller, sign, many), meets(house, caller, sign, row))
                        self.assertEqual(meets(told, many, sign, caller), meets(house, row, sign, caller))

    def test_no_elders(self):
        house = mixed_house()
        # No row of elders, though each is a tuple of unlike kinds: too many, none, without a line.
        for elders in ((), (3, 2, 1, 0), (0, 1), (0, 3), (1, 2, 3), 0, 3):
            check(self, NoElders, promise.grown, [house, elders])
        self.assertEqual(promise.grown(house, (3,)), ((*DIAMOND, (3,)), MIXED, right_books()))
        self.assertEqual(house, mixed_house())

    def test_no_elders_ahead_of_too_many(self):
        house = (((), (0,), (1,), (2,), (3,), (4,)), SIDED, {})
        for elders in WRONG["elders"] + [(), (0, 1), (5, 4, 3, 2), 0]:
            if repr(elders) not in ("(4,)", "(0, 4)"):
                check(self, NoElders, promise.grown, [house, elders])
        for elders in ((0,), (5,), (4, 3), (5, 0), (5, 4, 3)):
            check(self, TooMany, promise.grown, [house, elders])

    def test_new_books(self):
        house = mixed_house()
        told = promise.grown(house, (3,))
        self.assertIsNot(told[2], house[2])
        told[2].clear()
        self.assertEqual(house, mixed_house())
        house[2].clear()
        self.assertEqual(promise.grown(house, (3,))[2], {})


class OwnTest(unittest.TestCase):
    def test_the_house_stays(self):
        house = mixed_house()
        for sign in range(4):
            for one, other in product(RIGHT["caller"], repeat=2):
                promise.both(house, one, sign, other)
            promise.first_odd(house, sign)
            promise.odd_many(house, sign)
            promise.table(house, sign)
            promise.table_holds(house, sign, [])
        self.assertEqual(repr(house), repr(mixed_house()))

    def test_the_house_as_it_is_at_the_call(self):
        books = dict(KEEPING[2])
        house = (*KEEPING[:2], books)
        self.assertIsNone(promise.first_odd(house, 0))
        told = promise.table(house, 0)
        books[1, 0, SECOND] = ((-1, 0),)
        self.assertIsNotNone(promise.first_odd(house, 0))
        self.assertIs(promise.table_holds(house, 0, told), False)
        del books[1, 0, SECOND]
        self.assertIs(promise.table_holds(house, 0, told), True)
        books[1, 0, SECOND] = ()
        self.assertRaises(NoHouse, promise.table_holds, house, 0, told)


if __name__ == "__main__":
    unittest.main()

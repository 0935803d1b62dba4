"""Refusals in the order of the arguments, for the tests of all functions that take a house."""

from dealclerks.errors import NoCaller, NoElders, NoHouse, NoKind, NoRow, NoSide, NoSign, NoTree, NoWriting
from tests.forest import LEFT, WRONG_PARTS, doubled, leaning
from tests.houses import FIRST, NO_WRITINGS, PLACE, SECOND, mixed_house, no_houses
from tests.samples import DEEP, NO_FAMILIES, PLAIN

NO_INTS = [thing for thing in NO_FAMILIES if not isinstance(thing, int) or isinstance(thing, bool)]
NO_TUPLES_OF_KINDS = [thing for thing in NO_FAMILIES if repr(thing) not in ("()", "(0,)")]
BEYOND = [-1, -2, 4, 5, 6, 7, 10 ** 30, -(10 ** 30)]

# Of the house that mixed_house tells: rights, wrongs and the class by which these are refused.
RIGHT = {
    "caller": [0, 3, (0,), (1, 2), (3,), (2, 1), (3, 0)],
    "kind": [0, 1, 3],
    "sign": [0, 1, 3],
    "side": [FIRST, PLACE],
    "tree": [0, 3, (0, 0, 0)],
    "row": [(0,), (0, 1, 3), (0,) * 12],
    "writing": [((-1, -1),), ((3, 3), (0, -2))],
    "elders": [(0,), (1, 2)],
}
WRONG = {
    "caller": PLAIN[:3] + BEYOND + ["", "0", "a", [], {}, (), [0], (4,), (-1,), (0, 0), (0, 1), (0, 3), (1, 3), (True,),
                                    (0, 0, 0), (0, 1, 2, 3), (3, 2, 1, 0), ((0,),), (None,), ([0],), (1, 2, 3), [1, 2],
                                    (3, 2, 1, 0, 0), {0: 0}, (10 ** 30,), ("0",), (1, True), (False,)] + DEEP,
    "kind": NO_INTS + BEYOND,
    "sign": NO_INTS + BEYOND,
    "side": [None, True, False, 0, 1, 2, -1, "", "First", "first ", " first", "fir", "fore", "third", "places", [], {}, (),
             (FIRST,), [FIRST], [PLACE], {FIRST: FIRST}, (FIRST, SECOND, PLACE), 10 ** 30, "first second"] + DEEP,
    "tree": WRONG_PARTS + [4, 5, (4, 0, 0), (0, 0, 5), (0, 4, 0), (0, 0, (0, 4, 0)), leaning(41, 0, LEFT), doubled(6)],
    "row": NO_TUPLES_OF_KINDS + [
        (), (4,), (-1,), (0, 4), (4, 0), (0,) * 13, (0,) * 14, (True,), (0, False), [0], [0, 1], (0, None), ("0",), ((0,),),
        (0, [0]), {0: 0}, (10 ** 30,), (0,) * 11 + (4,), (True,) + (0,) * 11],
    "writing": NO_WRITINGS,
    # Not (): that is no row of elders, but clerks take it.
    "elders": NO_TUPLES_OF_KINDS + [
        (4,), (-1,), (0, 0), (0, 4), (1, 0, 1), (True,), (False,), (1, True), [0], [], (0, None), ("0",), ((0,),), ((),),
        {0: 0}, (10 ** 30,), (3, 2, 1, 0, 3), (0, 1, 2, 3, 4)],
}
CLASSES = {
    "caller": NoCaller, "kind": NoKind, "sign": NoSign, "side": NoSide, "tree": NoTree, "row": NoRow,
    "writing": NoWriting, "elders": NoElders,
}


def few(things, many):
    """Some of the things, spread over them."""
    return [things[at * len(things) // many] for at in range(many)] if len(things) > many else things


def rests(words):
    """Arguments that may stand behind: all right, each alone wrong, all wrong."""
    right = [RIGHT[word][0] for word in words]
    yield right
    for at, word in enumerate(words):
        for thing in few(WRONG[word], 4):
            yield right[:at] + [thing] + right[at + 1:]
    for turn in range(4):
        yield [few(WRONG[word], 4)[(turn + at) % 4] for at, word in enumerate(words)]


def check_no_house(test, function, words):
    """That what is no house is refused with NoHouse, whatever stands behind it."""
    behind = list(rests(words))
    for at, house in enumerate(no_houses()):
        for rest in [behind[0], behind[1 + at % (len(behind) - 1)]] if words else [[]]:
            check(test, NoHouse, function, [house, *rest])


def check_order(test, function, words):
    """That the first wrong argument behind the house is refused with its class, whatever stands behind it."""
    house = mixed_house()
    for at, word in enumerate(words):
        ahead = [RIGHT[before][at % 2] for before in words[:at]]
        for thing in WRONG[word]:
            for rest in rests(words[at + 1:]):
                check(test, CLASSES[word], function, [house, *ahead, thing, *rest])
    test.assertEqual(house, mixed_house())


def check_second(test, function, words):
    """That `second` of signs that aren't sided is refused in the place of the side."""
    at = words.index("side")
    for sign in (1, 2, 3):
        for rest in rests(words[at + 1:]):
            ahead = [sign if word == "sign" else RIGHT[word][0] for word in words[:at]]
            check(test, NoSide, function, [mixed_house(), *ahead, SECOND, *rest])
    right = [RIGHT[word][0] for word in words[:at]] + [SECOND] + [RIGHT[word][0] for word in words[at + 1:]]
    function(mixed_house(), *right)


def check(test, refusal, function, arguments):
    with test.assertRaises(refusal, msg=(function.__name__, arguments)) as caught:
        function(*arguments)
    test.assertIs(type(caught.exception), refusal)

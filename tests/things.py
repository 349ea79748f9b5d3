"""Things of any kind that a caller may hand in, for the tests."""

LAST = 10 ** 9
FORTY = 10 ** 40 - 1


def nested(wrap, core, times=39):
    """core, wrapped as many times."""
    thing = core
    for _ in range(times):
        thing = wrap(thing)
    return thing


TRUTHS = [True, False]

# Whole numbers that are no place.
FAR_NUMBERS = [-1, -2, LAST + 1, 2 * LAST, FORTY, -FORTY]

# Nothing here is a whole number, a stretch, a colour or a stroke, nor a tuple or list of strokes but () and [].
NO_NUMBERS = TRUTHS + [
    None, "", "0", "1", " ", "-", "Red", "None", (), [], {}, (0,), [0], (0, 0, 0, 0), [0, 1], [0, 1, "red"], {0: 1},
    {0: 0, 1: 0}, {0: 0, 1: 0, 2: "red"}, {"low": 0, "high": 1, "colour": "red"}, (None,), (None, None),
    (None, None, None), ((0, 1), "red"), ((0, 1, "red"), (0, 1, "reD")), [None], [[]], [{}], ({},), ("red",), ["red"],
    nested(lambda thing: (thing,), 0), nested(lambda thing: [thing], 0), nested(lambda thing: {0: thing}, 0),
    nested(lambda thing: (thing, thing)[:1], (0, 1, "red")), (0,) * 10000, [0] * 9999, "A" * 10000,
    {number: number for number in range(5000)},
]

# Nor is anything here a place.
ANYTHING = NO_NUMBERS + FAR_NUMBERS

COLOURS = ["a", "z", "m", "red", "blue", "abcdefg", "abcdefgh", "zzzzzzzz", "az"]

# Texts and other things that are no colour.
NO_COLOURS = ANYTHING + [
    0, 1, "abcdefghi", "aaaaaaaaa", "a" * 10000, "A", "RED", "reD", "Red", "red ", " red", "r d", "red1", "1", "_",
    "re-d", "re/d", "red\n", "\n", "\t", "`", "{", "@", "[", "\u00e9", "\u00df", "\u00aa", "r\u00e9d", "\u0430", "\uff41",
    "\u0131", "\u00b2", "\ud800", ("a",), ["a"], ("r", "e", "d"), {"red": 1}, b"red",
]

STRETCHES = [(0, 0), (0, 1), (0, LAST), (1, 1), (3, 5), (7, LAST), (LAST, LAST), (LAST - 1, LAST)]

NO_PLACES = ANYTHING

# Each is a tuple or a list, near to a stretch, that is none.
NEAR_STRETCHES = [
    (), (0,), (0, 1, 2), (0, 1, "red"), [0, 1], [0, 0], (1, 0), (LAST, 0), (LAST, LAST - 1), ((0, 1),), ((0, 1), (0, 1)),
    "01", "ab", {0: 0, 1: 1}, (0, 1, 1, 0), [(0, 1)],
] + [(0, thing) for thing in NO_PLACES] + [(thing, LAST) for thing in NO_PLACES] + [(thing, thing) for thing in NO_PLACES]

NO_STRETCHES = ANYTHING + NEAR_STRETCHES + [0, 1, LAST]

STROKES = [(low, high, colour) for low, high in STRETCHES for colour in COLOURS]

NEAR_STROKES = [
    (), (0,), (0, 1), (0, "red"), ("red",), (0, 1, "red", "red"), (0, 1, "red", 0), (0, 1, "red", None), [0, 1, "red"],
    (1, 0, "red"), (LAST, LAST - 1, "red"), (0, "red", 1), ("red", 0, 1), ((0, 1), "red"), (0, (1, "red")),
    "0 1 red", "abc", {0: 0, 1: 1, 2: "red"}, (0, 1, ("red",)), (0, 1, ["red"]),
] + [(0, 1, thing) for thing in NO_COLOURS] \
  + [(0, thing, "red") for thing in NO_PLACES] \
  + [(thing, LAST, "red") for thing in NO_PLACES] \
  + [(thing, thing, "red") for thing in NO_PLACES]

# A book may be made of each of these, but none is a stroke.
BOOK_PARTS = [(), [], ((0, 1, "red"),), [(0, 1, "red")], ((0, 1, "red"), (0, 1, "red")), [(0, 1, "red"), (2, 3, "blue")]]

NO_STROKES = ANYTHING + NEAR_STROKES + BOOK_PARTS + [0, 1, LAST, (0, 1), "red"]

# No book may be made of any of these.
NO_BOOKS = [thing for thing in NO_STROKES if thing not in BOOK_PARTS]

# None is the moment of all strokes; the book's length and what is above it depend on the book.
NO_MOMENTS = [thing for thing in ANYTHING if thing is not None] + ["red", (0, 1), (0, 1, "red"), [0], [1], (1,), b"0"]

# Nothing here is a look at any book.
NO_LOOKS = ANYTHING + [
    0, 1, LAST, (0, 0), (0, 0, 0, 0), [0, 0, 0], (0, [0, 0]), (0, (0, 0)), ((0, 0, 0),), [(0, 0, 0)], ((0, 0), 0), "000",
    "0 0 0", (0, 1, 0), (0, LAST, 0), (0, LAST, LAST - 1), (0, 9, "red"), (0, "0", 9), ("0", 0, 9), {0: 0, 1: 0, 2: 0},
    (None, 0, 0), (0, None, 0), (0, 0, None), (None, None, None), (True, 0, 0), (False, 0, 0), (0, False, 0),
    (0, 0, True), (0, True, True), (0, False, False), ((0,), 0, 0),
] + [(thing, 0, LAST) for thing in ANYTHING] \
  + [(0, thing, LAST) for thing in NO_PLACES] \
  + [(0, 0, thing) for thing in NO_PLACES] \
  + [(0, thing, thing) for thing in NO_PLACES]

WISHES = [
    (), ((0, LAST, "red"),), ((0, LAST, None),), ((0, 0, "a"),), ((LAST, LAST, "abcdefgh"),), ((3, 5, "red"), (6, 9, "red")),
    ((3, 5, "red"), (6, 9, "blue"), (10, LAST, None)), ((0, 1, None), (2, 3, None), (LAST, LAST, None)),
    tuple((3 * at, 3 * at + 2, "red") for at in range(12)), tuple((at, at, None) for at in range(12)),
    ((0, LAST - 1, "z"), (LAST, LAST, "a")),
]

# What a part of a wish may be told as, but for a colour of None.
NO_PARTS = [thing for thing in NEAR_STROKES if thing not in [(0, 1, None)]] + ANYTHING

# Nothing here is a wish.
NO_WISHES = [thing for thing in ANYTHING if thing != ()] + [
    0, 1, (0, 1, "red"), (0, 1, None), [(0, 1, "red")], [], ["red"], ((0, 1),), ((0, 1, "red"), ()), (((0, 1, "red"),),),
    ((0, 1, "red"), (0, 1, "red")), ((0, 1, "red"), (0, 1, "blue")), ((0, 1, "red"), (0, 1, None)),
    ((0, 1, None), (0, 1, None)), ((0, 5, "red"), (5, 9, "red")), ((0, 5, "red"), (3, 3, "red")), ((3, 3, "a"), (0, 5, "b")),
    ((5, 9, "red"), (0, 1, "red")), ((5, 9, None), (0, 1, None)), ((2, 3, "red"), (0, 1, "red")), ((0, 0, "a"), (0, LAST, "a")),
    ((0, 1, "red"), (4, 6, "red"), (6, 9, "red")), ((0, 1, "red"), (7, 9, "red"), (4, 6, "red")),
    ((1, 0, "red"),), ((0, 1, "red"), (5, 4, "red")), ((0, 1, "red"), [2, 3, "red"]), ((0, 1, "red"), None),
    tuple((at, at, "red") for at in range(13)), tuple((2 * at, 2 * at, None) for at in range(13)),
    tuple((at, at, "red") for at in range(3000)), ((0, 1, "red"),) * 13, "red", {0: (0, 1, "red")}, {(0, 1): "red"}, b"",
] + [(thing,) for thing in NO_PARTS] \
  + [((0, 1, "red"), thing) for thing in NO_PARTS] \
  + [(thing, (LAST, LAST, "red")) for thing in NO_PARTS[:60]]

# Nothing here is looks at any book.
NO_LOOKS_AT_ALL = [thing for thing in ANYTHING if thing != ()] + [
    [], [(0, 0, 0)], 0, 1, (0, 0, 0), ((0, 0, 0),) * 21, ((0, 0, 0), ()), ((0, 0, 0), None), (((0, 0, 0),),), {0: (0, 0, 0)},
] + [(thing,) for thing in NO_LOOKS[::7]] + [((0, 0, 0), thing) for thing in NO_LOOKS[::11]]

# Nothing here is a part of a laying of any book.
NO_PUTS = ANYTHING + [
    0, 1, (0, 1, "red"), (0, 0, 1), (0, 0, 1, "red", "red"), (0, (0, 1, "red")), [0, 0, 1, "red"], ((0, 0, 1, "red"),),
    (0, 1, 0, "red"), (0, LAST, LAST - 1, "red"), (0, 0, 1, None), (None, 0, 1, "red"), ("red", 0, 0, 1), (0, "red", 0, 1),
    "0 0 1 red", {0: 0, 1: 0, 2: 1, 3: "red"}, (0, None, 1, "red"), (0, 0, None, "red"),
] + [(thing, 0, 1, "red") for thing in ANYTHING] \
  + [(0,) + thing for thing in NEAR_STROKES if isinstance(thing, tuple)]

# Nothing here is a laying of any book.
NO_LAYINGS = [thing for thing in ANYTHING if thing != ()] + [
    [], [(0, 0, 1, "red")], (0, 0, 1, "red"), {0: (0, 0, 1, "red")}, ((0, 0, 1, "red"), ()), (((0, 0, 1, "red"),),), "red",
    ((0, 0, 1, "red"), [0, 0, 1, "red"]), ((1, 0, 1, "red"), (0, 0, 1, "red")), ((0, 0, 1, "a"), (1, 0, 1, "a"), (0, 0, 1, "a")),
] + [(thing,) for thing in NO_PUTS] + [((0, 0, 1, "red"), thing) for thing in NO_PUTS[::3]]

PRICES = [
    {}, {"red": 1}, {"red": 999}, {"a": 1, "abcdefgh": 999, "zz": 500}, {"red": 7, "blue": 7}, {"z" * many: many for many in range(1, 9)},
]

# Nothing here is prices.
NO_PRICES = [thing for thing in ANYTHING if thing != {}] + [
    {"red": 0}, {"red": -1}, {"red": 1000}, {"red": FORTY}, {"red": -FORTY}, {"red": 1, "blue": 0}, {"red": 1, "blue": 1000},
    {"red": True}, {"red": False}, {"red": None}, {"red": "1"}, {"red": [1]}, {"red": (1,)}, {"red": {}}, {"": 1}, {"Red": 1},
    {"redredred": 1}, {"red1": 1}, {"red ": 1}, {0: 1}, {1: 1}, {7: 7}, {"red": 1, 0: 1}, {"red": 1, "R": 1}, {FORTY: 1},
    {"\u00e9": 1}, {"-": 1}, [("red", 1)], (("red", 1),), ["red", 1], "red", ("red", 1), [], (), 0, 1, None, b"", "",
] + [{"red": thing} for thing in ANYTHING] \
  + [{"blue": 3, thing: 3} for thing in NO_COLOURS if isinstance(thing, (str, int)) and not isinstance(thing, bool)]

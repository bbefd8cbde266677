"""Things to hand in: wrong ones of many kinds, and books, fixed ones and some strewn by a seed."""

import random

NOTHING_SEEN = ((), ())

# None of these is marks, a sheet, a page, laid pages, a book, a mould, a day or a life.
ODD_THINGS = [
    None, True, False, -1, 31, 10 ** 30 - 1, -(10 ** 30 - 1),
    "", "0", "made", "mended", "made 0 0 -/-",
    [], [0], [()], [((), ())], {}, {0: 1}, {"made": 0}, {(): ()},
    (None,), (True,), (False,), ("",), ([],), ({},), ("made",), (-1,), (8,),
    ((((((1,),),),),),), [[[[[[1]]]]]], {0: {1: {2: {3: {4: 5}}}}},
    (0, None), (None, 0), ("a", 1), (1, "a"), ([], {}), ({}, {}), (None,) * 31, ([],) * 31, ([],) * 500,
    ("made", 0, 0), (0, 0, 0, 0), ([], [], [], []), ({}, {}, {}, {}),
]

WRONG_MOULDS = ODD_THINGS + [4, (), (0,), ((), ())]
WRONG_DAYS = ODD_THINGS + [(), (0,), ((), ())]
WRONG_SORTS = ODD_THINGS + [3, 10 ** 29, (), (0,), ((), ())]

WRONG_MARKS = ODD_THINGS + [
    0, 7,
    (0, -1), (-1, 0), (7, 8), (0, 0), (7, 7), (1, 0), (0, 2, 1), (0, 1, 1), (0, 1, 2, 3, 4, 5, 6, 7, 8),
    (0, True), (True, 2), (False, 1), (False,), (0, None), (0, "1"), ("0", "1"), (0, (1,)), (0, [1]), (0, {}),
    ((),), ((0,),), ((), ()), [0, 1], {0: 1, 1: 2}, (10 ** 29,),
]

WRONG_SHEETS = ODD_THINGS + [
    0, (), (0,), (0, 1), ((),), ((), (), ()), [(), ()], ((), []), ([], ()), ([], []), ((0,), [1]), ([0], (1,)),
    ((0,), (0,)), ((0, 1, 2), (2,)), ((7,), (0, 7)), (tuple(range(8)), (7,)),
    ((8,), ()), ((), (8,)), ((-1,), ()), ((), (-1,)), ((1, 0), ()), ((), (1, 0)), ((1, 1), ()), ((), (1, 1)),
    ((True,), ()), ((), (True,)), ((False,), ()), ((), (False,)), ((None,), ()), ((), (None,)),
    (None, ()), ((), None), (0, ()), ((), 0), (True, ()), ((), False), ("", ""), ((), ""), ({}, ()), ((), {}),
    (((),), ()), (((), ()), ((), ())),
]

WRONG_PAGES = ODD_THINGS + [
    (), ("made", 0, 0, NOTHING_SEEN, 0), ("made", 0, 0, (), ()), ("mended", 0, 0), ("mended", 0, 0, 0, 0),
    ["made", 0, 0, NOTHING_SEEN], ["mended", 0, 0, 0],
    ("made", -1, 0, NOTHING_SEEN), ("made", 4, 0, NOTHING_SEEN), ("mended", -1, 0, 0), ("mended", 4, 0, 0),
    ("made", 0, -1, NOTHING_SEEN), ("made", 0, 31, NOTHING_SEEN), ("mended", 0, -1, 0), ("mended", 0, 31, 0),
    ("mended", 0, 0, -1), ("mended", 0, 0, 8),
    ("made", True, 0, NOTHING_SEEN), ("made", 0, True, NOTHING_SEEN), ("made", False, 0, NOTHING_SEEN),
    ("made", None, 0, NOTHING_SEEN), ("made", 0, None, NOTHING_SEEN), ("made", 0, 0, None),
    ("made", 0, False, NOTHING_SEEN), ("made", 0, 0, True), ("made", 0, 0, ((True,), ())),
    ("made", 0, 0, ((), (False,))), ("made", 0, 0, ((None,), ())),
    ("mended", True, 0, 0), ("mended", False, 0, 0), ("mended", 0, True, 0), ("mended", 0, False, 0),
    ("mended", 0, 0, True), ("mended", 0, 0, False), ("mended", 0, 0, None), ("mended", None, 0, 0),
    ("mended", 0, None, 0),
    ("made", 0, 0, 0), ("made", 0, 0, ()), ("made", 0, 0, (0,)), ("made", 0, 0, [(), ()]), ("made", 0, 0, ([], ())),
    ("made", 0, 0, ((1,), (1,))), ("made", 0, 0, ((1, 0), ())), ("mended", 0, 0, (0,)), ("mended", 0, 0, ()),
    ("mended", 0, 0, NOTHING_SEEN), ("mended", 0, 0, "0"), ("made", "0", 0, NOTHING_SEEN), ("made", 0, [], NOTHING_SEEN),
    ("Made", 0, 0, NOTHING_SEEN), ("made ", 0, 0, NOTHING_SEEN), ("", 0, 0, NOTHING_SEEN), ("mend", 0, 0, 0),
    ("", 0, 0, 0), (0, 0, 0, NOTHING_SEEN), (None, 0, 0, 0), (True, 0, 0, 0), (["made"], 0, 0, NOTHING_SEEN),
    ({"made": 1}, 0, 0, NOTHING_SEEN), ({}, 0, 0, 0), ([], 0, 0, 0), (("made",), 0, 0, NOTHING_SEEN),
    ("made", [], {}, NOTHING_SEEN), ("mended", {}, [], 0),
]


def made(mould, day, has=(), lacks=()):
    return ("made", mould, day, (tuple(has), tuple(lacks)))


def mended(mould, day, mark):
    return ("mended", mould, day, mark)


def lay(*pages):
    return tuple(sorted(pages))


FULL_BOOK = tuple(made(0, day, (0,) if day > 11 else (), (1,)) for day in range(24))

WRONG_LAID = ODD_THINGS + [
    0, [made(0, 0)], [made(0, 0), made(0, 1)], {made(0, 0): 1},
    (made(0, 1), made(0, 0)), (made(0, 0), made(0, 0)), (mended(0, 0, 0), made(3, 30)),
    (made(0, 0, (1,)), made(0, 0, (0,))), (mended(0, 0, 1), mended(0, 0, 1)), (mended(0, 0, 1), mended(0, 0, 0)),
    (made(0, 0), made(0, 1), made(0, 1)), made(0, 0), mended(0, 0, 0), NOTHING_SEEN, (NOTHING_SEEN,),
    FULL_BOOK + (made(0, 24),), (list(made(0, 0)),), ((made(0, 0),),),
    FULL_BOOK[:23] + (("made", 0, 31, NOTHING_SEEN),), (made(0, 0), None), (None, made(0, 0)), (made(0, 0), "made"),
    (made(0, 0), [made(0, 1)]),
] + [(page,) for page in WRONG_PAGES]

# Each is laid pages, and has a fault.
FAULTY = [
    lay(made(0, 5, (1,)), made(0, 5, (), (1,))),
    lay(made(0, 5, (1,)), made(0, 6, (), (1,))),
    lay(made(0, 0, (1,)), made(0, 30, (), (1,))),
    lay(made(3, 9, (7,)), mended(3, 9, 7)),
    FULL_BOOK[:23] + (made(0, 30, (1,), (0,)),),
]

WRONG_BOOKS = WRONG_LAID + FAULTY

BOOKS = [
    (),
    (made(0, 0),),
    (made(0, 10, (0, 3), (1,)),),
    (mended(2, 15, 4),),
    lay(made(1, 5, (2,)), mended(1, 10, 2), made(1, 12, (), (2,)), made(1, 20, (2,), (0,))),
    lay(made(1, 5, (2,)), mended(1, 6, 2), made(1, 6, (), (2,)), made(1, 7, (2,))),
    lay(made(0, 0, (0,), (7,)), made(0, 30, (0, 1), (6, 7)), made(1, 0, (), (0,)), made(3, 30, (7,))),
    lay(mended(0, 0, 0), mended(0, 30, 0), made(0, 1, (0,)), made(0, 29, (0,))),
    lay(*[made(mould, 30, (), (0,)) for mould in range(4)]),
    FULL_BOOK,
]


# None of these is a tuple of one to three sheets.
WRONG_SHEETS_TOGETHER = ODD_THINGS + [
    0, (), (NOTHING_SEEN,) * 4, NOTHING_SEEN, ((0,), (1,)), [NOTHING_SEEN], [NOTHING_SEEN, NOTHING_SEEN],
    (NOTHING_SEEN, NOTHING_SEEN, [(), ()]), ((NOTHING_SEEN,),), ((NOTHING_SEEN,), (NOTHING_SEEN,)), {NOTHING_SEEN: 1},
] + [(sheet,) for sheet in WRONG_SHEETS] + [(NOTHING_SEEN, sheet, ((0,), (1,))) for sheet in WRONG_SHEETS]

# None of these is a tuple of marks, whatever their number.
WRONG_LINES = ODD_THINGS + [
    0, (), (0,), (0, 1), [()], [(0,), (1,)], [[0], [1]], ([0], [1]), (((0,),),), {(): ()}, ((), [0]), ((0,), 1),
] + [(marks,) for marks in WRONG_MARKS] + [((), marks, (0,)) for marks in WRONG_MARKS]

WRONG_RUNS = WRONG_LINES + [((),) * 11, tuple((mark,) for mark in (0, 1, 2, 3, 4, 5, 6, 7, 0, 1, 2)), ((),) * 500]
WRONG_HEAPS = WRONG_LINES + [((),) * 10, tuple((mark,) for mark in (0, 1, 2, 3, 4, 5, 6, 7, 0, 1)), ((),) * 500]

WRONG_COUNTS = ODD_THINGS + [
    0, 479999, (), (0,), (0, 0), (0, 0, 0, 0), [0, 0, 0], [], [(0, 0, 0)], ((0, 0, 0),), "000", "0 0 0", {0: 0},
    (1000, 0, 0), (0, 20, 0), (0, 0, 24), (1000, 20, 24), (10 ** 29, 0, 0), (0, 10 ** 29, 0), (0, 0, 10 ** 29),
] + [(0, 0, 0)[:at] + (wrong,) + (0, 0, 0)[at + 1:] for at in range(3)
     for wrong in (-1, True, False, None, "0", "", (), (0,), [], [0], {}, -(10 ** 29))]


def some_sheet(chance, marks):
    has, lacks = [], []
    for mark in range(marks):
        chance.choice([has, lacks, [], []]).append(mark)
    return (tuple(has), tuple(lacks))


def some_pages(chance, most, moulds, marks, days):
    """Pages strewn over few moulds, marks and days, so that faults are neither rare nor sure."""
    pages = set()
    for turn in range(chance.randrange(most + 1)):
        mould, day = chance.randrange(moulds), chance.choice(days)
        if chance.random() < 0.4:
            pages.add(("mended", mould, day, chance.randrange(marks)))
        else:
            pages.add(("made", mould, day, some_sheet(chance, marks)))
    return tuple(sorted(pages))


def strewn_pages(many):
    chance = random.Random(41)
    day_choices = [list(range(31)), [0, 1, 2, 3], [27, 28, 29, 30], [0, 15, 30], [14, 15, 16]]
    sizes = [(3, 1, 1), (6, 1, 2), (8, 2, 3), (24, 4, 8), (24, 4, 2)]
    told = []
    for turn in range(many):
        most, moulds, marks = chance.choice(sizes)
        told.append(some_pages(chance, most, moulds, marks, chance.choice(day_choices)))
    return told


def some_line(chance, many, marks):
    """Many marks, few of them at first and more behind, so that layings and long rows are neither rare nor sure."""
    told, grown = [], set()
    for turn in range(many):
        if chance.random() < 0.5:
            grown.add(chance.randrange(marks))
        drawn = grown if chance.random() < 0.6 else {chance.randrange(marks) for each in range(chance.randrange(4))}
        told.append(tuple(sorted(drawn)))
    return tuple(told)


def strewn_lines(most, times):
    chance = random.Random(97)
    told = [some_line(chance, many, marks) for many in range(1, most + 1) for marks in (1, 2, 3, 5, 8)
            for turn in range(times)]
    for turn in range(times):
        mixed = list(told[-1 - turn])
        chance.shuffle(mixed)
        told.append(tuple(mixed))
    return told

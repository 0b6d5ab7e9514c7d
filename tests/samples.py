"""Arguments for the functions of the package, right and wrong ones."""

from snuglay import least, nofits, papers, places, shapes, texts

SQUARE = ((0, 0), (2, 0), (2, 2), (0, 2))
WEDGE = ((0, 0), (2, 0), (0, 2))
KITE = ((-2, 0), (0, -3), (3, -1), (2, 2), (0, 3))
STAR = ((-9, 3), (6, -8), (0, 10), (-6, -8), (9, 3))
BLOCK = ("a", (SQUARE,), (0,))
PAIR = ("b", (WEDGE, KITE), (0, 2))
DOC_JOB = (2, (BLOCK, ("b", (WEDGE,), (0,)), ("c", (WEDGE,), (0, 2))))
DOC_FILLED = ((0, (0, 1), (0, 1)), (0, (2, 1), (0, 1)), (2, (4, 1), (2, 1)))
JOB = (9, (BLOCK, PAIR))
PLACED = ((0, (0, 1), (0, 1)), (2, (11, 2), (7, 3)))
LAID = ((BLOCK, (0, (0, 1), (1, 2))), (PAIR, (2, (9, 1), (4, 1))))

BAD_FRACTIONS = [(2, 4), (0, 2), (1, 0), (1, -1), (-1, -2), (3,), (1, 2, 1), (), 0, 1, True, None, "1/2", (True, 1),
                 (1, True), ("1", "2"), ((1, 1), (1, 1)), 10 ** 30]
BAD_BOUNDS = [value for value in BAD_FRACTIONS if value is not None]
BAD_TURNS = [-1, 4, 10 ** 30, True, False, None, "0", (), (0,), [1]]
BAD_WIDTHS = [0, -1, 101, 10 ** 30, -10 ** 30, True, False, None, "2", (), (2,), [2]]
BAD_NAMES = ["", "A", "aB", "abcdefghi", "a b", "a\n", "a1", "-", "_", True, None, 0, ("a",), ["a"]]
BAD_CORNERS = [(41, 0), (0, 41), (-41, 0), (0, -41), (10 ** 30, 0), (1,), (1, 2, 3), (), True, 0, None, "ab",
               (True, 0), (0, False), ("0", 0), ((0, 0), (0, 0))]
BAD_PARTS = [
    (), (SQUARE[0],), SQUARE[:2], "abc", None, 3, True, (1, 2, 3), (SQUARE,),
    SQUARE[::-1], ((0, 0), (0, 2), (2, 0)),  # clockwise
    ((2, 0), (2, 2), (0, 2), (0, 0)), ((0, 2), (0, 0), (2, 0)),  # the least is not first
    ((0, 0), (1, 0), (2, 0)), ((0, 0), (1, 0), (2, 0), (2, 2)), ((0, 0), (2, 0), (2, 2), (0, 2), (0, 1)),  # straight on
    ((0, 0), (4, 0), (1, 1), (0, 4)),  # a turn to the right
    ((0, 0), (2, 0), (2, 2), (2, 2)), ((0, 0), (2, 0), (0, 0), (2, 0)), ((0, 0), (0, 0), (0, 0)),  # corners twice
    ((0, 0), (2, 0), (0, 2), (2, 2)),  # sides that cross
    STAR,  # left turns only, but twice around
    ((-2, 0), (-1, -2), (1, -2), (2, 0), (1, 2), (-1, 2)),  # six corners
] + [(corner,) + SQUARE[1:] for corner in BAD_CORNERS]
BAD_PIECES = [
    (), ("a",), ("a", (SQUARE,)), ("a", (SQUARE,), (0,), 0), "abc", None, 5, True, SQUARE,
    ("a", (), (0,)), ("a", (SQUARE,) * 4, (0,)), ("a", SQUARE, (0,)), ("a", None, (0,)), ("a", "a", (0,)),
    ("a", (SQUARE,), ()), ("a", (SQUARE,), (0, 0)), ("a", (SQUARE,), (1, 0)), ("a", (SQUARE,), (0, 1, 2, 3, 3)),
    ("a", (SQUARE,), (0, 1, 2, 3, 4)), ("a", (SQUARE,), 0), ("a", (SQUARE,), "0"), ("a", (SQUARE,), (0, True)),
    ((SQUARE,), "a", (0,)),
] + [(name, (SQUARE,), (0,)) for name in BAD_NAMES] + [("a", (SQUARE, part), (0,)) for part in BAD_PARTS] \
  + [("a", (SQUARE,), (turn,)) for turn in BAD_TURNS]
FIVE_PARTS = (("a", (SQUARE,) * 3, (0,)), ("b", (WEDGE,) * 2, (0,)))
FIVE_PIECES = tuple((name, (SQUARE,), (0,)) for name in "abcde")
TURNINGS = ((("a", (SQUARE,), (0, 1, 2)), ("b", (SQUARE,), (1, 3))),
            (("a", (SQUARE,), (0, 1, 2, 3)), ("b", (SQUARE,), (1, 3))),
            tuple((name, (SQUARE,), (0, 2)) for name in "abc"))
BAD_JOBS = [
    (), (2,), (2, (BLOCK,), 0), "ab", None, 2, True, BLOCK, (2, ()), (2, BLOCK), (2, None), (2, "a"), ((BLOCK,), 2),
    (2, (BLOCK, BLOCK)), (2, (BLOCK, ("a", (WEDGE,), (1,)))), (2, FIVE_PARTS), (2, FIVE_PIECES),
] + [(2, pieces) for pieces in TURNINGS] + [(width, (BLOCK,)) for width in BAD_WIDTHS] \
  + [(2, (piece, ("z", (SQUARE,), (0,)))) for piece in BAD_PIECES]
BAD_PLACED = [
    (), PLACED[:1], PLACED + PLACED[:1], (None, None), "ab", None, 2, True, (PLACED[1], PLACED[0]), PLACED[1],
    (PLACED[0], (1, (0, 1), (0, 1))), ((2, (0, 1), (0, 1)), PLACED[1]), (PLACED[0], (0, (0, 1))),
    (PLACED[0], (0, (0, 1), (0, 1), (0, 1))), (PLACED[0], (0, 0, 0)), (PLACED[0], ()),
] + [((0, (0, 1), spot), PLACED[1]) for spot in BAD_FRACTIONS] + [((0, spot, (0, 1)), PLACED[1]) for spot in BAD_FRACTIONS] \
  + [((turn, (0, 1), (0, 1)), PLACED[1]) for turn in BAD_TURNS]
BAD_LAID = [
    "", "ab", None, 0, 4, True, (None,), (1, 2), (LAID[0][0],), (LAID[0], None), (LAID[0] + (0,),), LAID[0],
    (LAID[0],) * 5, tuple((piece, (0, (0, 1), (0, 1))) for piece in FIVE_PARTS),
    ((BLOCK, (1, (0, 1), (0, 1))),), ((BLOCK, (2, (0, 1), (0, 1))),), ((BLOCK,),), (((0, (0, 1), (0, 1)), BLOCK),),
] + [((piece, (0, (0, 1), (0, 1))),) for piece in BAD_PIECES] + [((BLOCK, placed[0]),) for placed in BAD_PLACED[16:]]

# for each function: its arguments in their order, each with a right value and wrong ones
PIECE = ("piece", PAIR, BAD_PIECES)
ONE = ("one", SQUARE, BAD_PARTS)
OTHER = ("other", KITE, BAD_PARTS)
THE_JOB = ("job", JOB, BAD_JOBS)
VALUE = ("value", PLACED, BAD_PLACED)
WIDTH = ("width", 9, BAD_WIDTHS)
THE_LAID = ("laid", LAID, BAD_LAID)
CALLS = [
    (shapes.turned, [PIECE, ("turn", 1, BAD_TURNS)]),
    (shapes.extent, [PIECE, ("turn", 3, BAD_TURNS)]),
    (shapes.is_laying, [THE_JOB, ("length", (17, 2), BAD_FRACTIONS)]),
    (nofits.nofit, [ONE, OTHER]),
    (nofits.is_apart, [ONE, OTHER, ("dx", (7, 3), BAD_FRACTIONS), ("dy", (-1, 2), BAD_FRACTIONS)]),
    (nofits.overlaps, [THE_JOB, VALUE]),
    (nofits.shared_place, [THE_JOB, VALUE, ("i", 0, [-1, 2, 10 ** 30, True, False, None, "0", (), (0,), (0, 1)]),
                           ("j", 1, [0, -1, 2, 10 ** 30, True, False, None, "1", (), (1,), (1, 1)])]),
    (places.first_place, [WIDTH, THE_LAID, PIECE]),
    (places.free_spans, [WIDTH, THE_LAID, PIECE, ("turn", 2, BAD_TURNS + [1, 3]),
                         ("left", (1, 2), BAD_FRACTIONS + [(-1, 1), (-1, 10 ** 40)])]),
    (places.filled, [THE_JOB]),
    (places.length_of, [THE_JOB, VALUE]),
    (least.least, [THE_JOB]),
    (least.laying, [THE_JOB]),
    (least.beside, [THE_JOB]),
    (papers.paper, [THE_JOB]),
    (papers.paper_holds, [THE_JOB, ("bound", least.least(JOB), BAD_BOUNDS)]),
    (texts.printed, [THE_JOB]),
]
# the last argument of these functions is a value about which they tell something, without BadValue
LAST = {shapes.is_laying: ("value", PLACED), papers.paper_holds: ("text", papers.paper(JOB))}


def arguments(function, rows):
    """The right arguments of a function of CALLS, also those that have no wrong values."""
    found = [right for name, right, wrong in rows]
    return found + [LAST[function][1]] if function in LAST else found


def names(function, rows):
    found = [name for name, right, wrong in rows]
    return found + [LAST[function][0]] if function in LAST else found


def listed(value):
    """The value with lists for its tuples, at every level."""
    return [listed(item) for item in value] if isinstance(value, (list, tuple)) else value


def mixed(value, odd=True):
    """The value with lists and tuples by turns."""
    if not isinstance(value, (list, tuple)):
        return value
    items = [mixed(item, not odd if at != 1 else odd) for at, item in enumerate(value)]
    return items if odd else tuple(items)


def spoiled(value):
    """Values with one thing, at any level, that can stand nowhere in its place."""
    if isinstance(value, (list, tuple)):
        for wrong in (True, None, 0, 7, "", "ab", "abc", tuple(value) + (None,), [value], [None] * len(value)):
            if wrong != value and not (wrong == [] and len(value) == 0):
                yield wrong
        for at, item in enumerate(value):
            for wrong in spoiled(item):
                yield tuple(value[:at]) + (wrong,) + tuple(value[at + 1:])
    elif isinstance(value, str):
        yield from BAD_NAMES
    else:
        yield from (True, False, None, "1", "", (), [], (1,), [[0]])


def deep(levels):
    """A list in a list, so many levels deep."""
    value = []
    for _ in range(levels - 1):
        value = [value]
    return value

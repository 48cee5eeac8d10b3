"""The definitions of DOC.md done once more in the plainest way, to test the program against.

Nothing here is imported from the package.
"""

import random
from math import gcd

OPPOSITE = {"right": "left", "left": "right", "up": "down", "down": "up"}
SIDES = ("right", "up", "left", "down")

ONE = (1, 1, (None,), (None,), (), ())
FOUR = (((0, 0, 0), "a"), ((0, 0, 1), "b"), ((0, 1, 0), "c"), ((0, 1, 1), "d"))
BOX = (1, 1, (None,), (None,), (), FOUR)
DIAL = (1, 2, (None,), (None,), ((("right", 0), (1, 0)),), FOUR)
STRIP = (1, 1, (0,), (None,), (), ())
TORUS = (1, 1, (0,), (0,), (), ())
TWO = (2, 1, (1, None), (None, None), (), (((0, 0, 0), "a"),))
PAIR = (2, 2, (1, None), (None, None), ((("right", 0), (1, 0)),), ())
BENT = (3, 1, (1, None, None), (2, None, None), (), ())
ELL = (3, 1, (1, None, None), (2, None, None), (), (((0, 0, 0), "a"), ((1, 1, 0), "b"), ((2, 0, 1), "c")))
SQUARE = (4, 1, (1, None, 3, None), (2, 3, None, None), (), ())
# A wall that ends: four CELLS about one whole point, with one joint lacking.
ENDING = (4, 1, (1, None, None, None), (2, 3, None, None), (), ())
SEVERAL = (4, 3, (1, None, 2, None), (None, 1, 3, None), ((("left", 3), (2, 0, 1)), (("up", 2), (0, 2, 1))),
           (((0, 0, 0), "a"), ((2, 0, 0), "b"), ((3, 0, 1), "a")))
def _turning(aside, over):
    """Four CELLS about one whole point; the dials at its four edges turn by aside, and by over."""
    dials = ((("right", 0), aside), (("right", 2), aside), (("up", 0), over), (("up", 1), over))
    return (4, 3, (1, None, 3, None), (2, 3, None, None), dials, ())


# The dials at the POINT within commute in WITH, and do not in AGAINST.
WITH = _turning((1, 2, 0), (2, 0, 1))
AGAINST = _turning((1, 0, 2), (0, 2, 1))

SAMPLES = (ONE, BOX, DIAL, STRIP, TORUS, TWO, PAIR, BENT, ELL, SQUARE, ENDING, SEVERAL, WITH, AGAINST)


def joints(table):
    """The dict from (cell, side) to (cell, side) for all edges that are JOINED, both ways."""
    found = {}
    for row, side in ((table[2], "right"), (table[3], "up")):
        for cell in range(table[0]):
            if row[cell] is not None:
                found[(cell, side)] = (row[cell], OPPOSITE[side])
                found[(row[cell], OPPOSITE[side])] = (cell, side)
    return found


def edge_named(table, cell, side):
    """The EDGE at a side of a CELL."""
    there = joints(table).get((cell, side))
    if there is not None and side in ("left", "down"):
        return (OPPOSITE[side], there[0])
    return (side, cell)


def edges(table):
    return tuple(sorted({edge_named(table, cell, side) for cell in range(table[0]) for side in SIDES}))


def all_corners(table):
    return [(cell, x, y) for cell in range(table[0]) for x in (0, 1) for y in (0, 1)]


def ends_of(cell, side):
    """The two CORNERS of a side of a CELL, lower or left one first."""
    if side in ("right", "left"):
        x = 1 if side == "right" else 0
        return ((cell, x, 0), (cell, x, 1))
    y = 1 if side == "up" else 0
    return ((cell, 0, y), (cell, 1, y))


def points(table):
    """The ascending list of all POINTS, by uniting two whatever a joint lays together."""
    group = {corner: {corner} for corner in all_corners(table)}
    for (cell, side), (other, far) in joints(table).items():
        for one, two in zip(ends_of(cell, side), ends_of(other, far)):
            whole = group[one] | group[two]
            for corner in whole:
                group[corner] = whole
    return sorted({tuple(sorted(point)) for point in group.values()})


def point(table, corner):
    return [one for one in points(table) if corner in one][0]


def turn(table, edge):
    return dict(table[4]).get(edge, tuple(range(table[1])))


def all_labels(table):
    return [corner + (mark,) for corner in all_corners(table) for mark in range(table[1])]


def go(table, label, is_up):
    """The LABEL behind the edge ahead, sideways or up."""
    cell, x, y, mark = label
    if is_up:
        side = "up" if y == 0 else "down"
    else:
        side = "right" if x == 0 else "left"
    mark = turn(table, edge_named(table, cell, side))[mark]
    there = joints(table).get((cell, side))
    if there is not None:
        return (there[0], x, y, mark)
    return (cell, x, 1 - y, mark) if is_up else (cell, 1 - x, y, mark)


def kept(table):
    """The set of the LABELS that are KEPT."""
    found = set()
    for start in all_labels(table):
        one = go(table, go(table, start, False), True)
        if one == go(table, go(table, start, True), False):
            found.add(one)
    return found


def falls(table):
    """The dict from the least CORNERS at which a ball falls to the names."""
    good = kept(table)
    pockets = dict(table[5])
    found = {}
    for one in points(table):
        if one[0] in pockets:
            found[one[0]] = pockets[one[0]]
        elif any(corner + (mark,) not in good for corner in one for mark in range(table[1])):
            found[one[0]] = ""
    return found


def crossings(slope):
    """Whether each line that is crossed is one up, by sorting where they lie."""
    p, q = slope
    lines = [(step * q, False) for step in range(1, p)] + [(step * p, True) for step in range(1, q)]
    return [is_up for _, is_up in sorted(lines)]


def ball(table, label, slope):
    """The tuple (OUTCOME, track) of a SHOT."""
    ends = falls(table)
    called = {corner: one[0] for one in points(table) for corner in one}
    track = [label]
    while True:
        here = track[-1]
        for is_up in crossings(slope) + [False, True]:
            here = go(table, here, is_up)
        track.append(here)
        name = ends.get(called[here[:3]])
        if name is not None:
            return ("falls", name, here[3], len(track) - 1), tuple(track)
        if here == label:
            return ("round", len(track) - 1), tuple(track)


def random_row(rng, size):
    """A row of joints: each CELL at most once."""
    row = [None] * size
    there = list(range(size))
    rng.shuffle(there)
    for cell in range(size):
        if rng.random() < 0.6:
            row[cell] = there[cell]
    return tuple(row)


def random_table(rng, most=8, marks=4):
    """Any TABLE at all, within the bounds."""
    size = rng.randint(1, most)
    marks = rng.randint(1, marks)
    bare = (size, marks, random_row(rng, size), random_row(rng, size), (), ())
    dials = []
    for edge in edges(bare):
        permutation = list(range(marks))
        rng.shuffle(permutation)
        if rng.random() < 0.3 and permutation != list(range(marks)):
            dials.append((edge, tuple(permutation)))
    pockets = []
    for one in points(bare):
        if rng.random() < 0.25:
            pockets.append((one[0], rng.choice(("a", "b", "home", "abcdefghijkl"))))
    return bare[:4] + (tuple(dials), tuple(pockets))


def tables(many, seed=7, most=8, marks=4):
    """The samples and so many random TABLES, always the same ones."""
    rng = random.Random(seed)
    return list(SAMPLES) + [random_table(rng, most, marks) for _ in range(many)]


def slopes(most):
    return [(p, total - p) for total in range(2, most + 1) for p in range(1, total) if gcd(p, total) == 1]


def deep(many):
    thing = ()
    for _ in range(many):
        thing = (thing,)
    return thing


class Other:
    """An object of some other kind."""


def odd_values():
    """Values of any kind, up to the bounds of [4]."""
    great = 10 ** 39 + 7
    return [
        None, True, False, 0, 1, 2, -1, great, -great, "", "a", "l", "lr", "right", " ", "~", "\n", "a" * 3000,
        "Z", "0", (), [], {}, (0,), (1, 1), [1, 1], (1, 0), (True, False), (None,), ((),), ("a", "b"),
        [[[]]], {"a": 1}, {(1, 2): [3]}, {1: None}, (1, 2, 3), (0, 0, 0), (0, 0, 0, 0), ("right", 0), ["right", 0],
        tuple(range(3000)), list(range(3000)), deep(20), [deep(19)], tuple([()] * 3000), (great, great + 1),
        ("falls", "a", 0, 1), ("round", 1), ("round", True), (("",), (0,), 1, 1, True), ((0,), (0,), (None,)),
        BOX, list(BOX), (1, 1, (None,), (None,), ()), ((1, 0), (0, 1)), ValueError(1), Other(), (Other(), Other()),
    ]

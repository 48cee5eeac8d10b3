"""Tables that lie in the plane, and their drawings, made once more without the package."""

from itertools import product

from tests import plain

AROUND = ((0, 0), (-1, 0), (0, -1), (-1, -1))


def random_flat(rng, most=8, wide=4):
    """A tuple (TABLE, PLACES): CELLS anywhere, with CUSHIONS and pockets at random."""
    left, low = rng.randint(-9, 9), rng.randint(-9, 9)
    spots = [(left + x, low + y) for x in range(rng.randint(1, wide)) for y in range(rng.randint(1, wide))]
    places = rng.sample(spots, min(len(spots), rng.randint(1, most)))
    rows = []
    for x, y in ((1, 0), (0, 1)):
        row = []
        for place in places:
            there = (place[0] + x, place[1] + y)
            row.append(places.index(there) if there in places and rng.random() < 0.75 else None)
        rows.append(tuple(row))
    bare = (len(places), 1, rows[0], rows[1], (), ())
    letters = {}
    pockets = []
    for point in plain.points(bare):
        cell, x, y = point[0]
        whole = (places[cell][0] + x, places[cell][1] + y)
        if whole not in letters:
            letters[whole] = rng.choice((None, None, None, "a", "m", "z"))
        if letters[whole] is not None:
            pockets.append((point[0], letters[whole]))
    return bare[:5] + (tuple(pockets),), tuple(places)


def drawing(table, places, point_sign=None):
    """The DRAWING, sign by sign: each is asked what lies about it."""
    joints = plain.joints(table)
    names = {}
    for point in plain.points(table):
        for cell, x, y in point:
            whole = (places[cell][0] + x, places[cell][1] + y)
            names[whole] = dict(table[5]).get(point[0], "+") if point_sign is None else point_sign
    left, right = min(x for x, _ in places), max(x for x, _ in places)
    low, high = min(y for _, y in places), max(y for _, y in places)
    lines = []
    for line in range(2 * (high - low) + 3):
        signs = ""
        for column in range(2 * (right - left) + 3):
            x, y = left + (column - 1) / 2, high - (line - 1) / 2
            if line % 2 and column % 2:
                signs += "." if (x, y) in places else " "
            elif line % 2:
                shut = [(x - 0.5, y) in places and (places.index((x - 0.5, y)), "right") not in joints,
                        (x + 0.5, y) in places and (places.index((x + 0.5, y)), "left") not in joints]
                signs += "|" if any(shut) else " "
            elif column % 2:
                shut = [(x, y - 0.5) in places and (places.index((x, y - 0.5)), "up") not in joints,
                        (x, y + 0.5) in places and (places.index((x, y + 0.5)), "down") not in joints]
                signs += "-" if any(shut) else " "
            else:
                signs += names.get((x + 0.5, y + 0.5), " ")
        lines.append(signs.rstrip(" "))
    return "\n".join(lines)


def cells_of(text):
    """The list of (line, column) at which a CELL is told."""
    return [(line, column) for line, row in enumerate(text.split("\n")) for column, sign in enumerate(row)
            if line % 2 and column % 2 and sign == "."]


def first_fault(text):
    """The first place at which a text of few CELLS is like the DRAWING of no TABLE, None if it is one.

    All DRAWINGS of TABLES with these CELLS are made, and it is asked how far each one goes along.
    """
    cells = cells_of(text)
    if not cells:
        return (0, 0)
    left = min(column for _, column in cells) - 1
    top = min(line for line, _ in cells) - 1
    low = max(line for line, _ in cells)
    places = [((column - 1) // 2, (low - line) // 2) for line, column in cells]
    pairs = [(one, other, row) for row, (x, y) in enumerate(((1, 0), (0, 1)))
             for one, place in enumerate(places) for other, there in enumerate(places)
             if there == (place[0] + x, place[1] + y)]
    lines = text.split("\n")
    height = max(len(lines), low + 2)
    width = max([len(line) for line in lines] + [column + 2 for _, column in cells])
    spots = [(line, column) for line in range(height) for column in range(width)]
    given = [line.ljust(width) for line in lines] + [" " * width] * (height - len(lines))
    best = -1
    for joined in product((False, True), repeat=len(pairs)):
        rows = [[None] * len(cells), [None] * len(cells)]
        for (one, other, row), is_joined in zip(pairs, joined):
            if is_joined:
                rows[row][one] = other
        table = (len(cells), 1, tuple(rows[0]), tuple(rows[1]), (), ())
        shown = [""] * top + [" " * left + line for line in drawing(table, places, "?").split("\n")]
        shown = [line.ljust(width) for line in shown] + [" " * width] * (height - len(shown))
        along = 0
        for line, column in spots:
            sign, wanted = given[line][column], shown[line][column]
            if sign != wanted and not (wanted == "?" and (sign == "+" or "a" <= sign <= "z")):
                break
            along += 1
        best = max(best, along)
    return None if best == len(spots) else spots[best]

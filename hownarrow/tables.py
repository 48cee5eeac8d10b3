"""Tables: their EDGES, CORNERS, POINTS and pockets, and how one is made."""

from hownarrow.errors import NoTable, Wrong
from hownarrow.forms import (
    SIDES,
    are_cells,
    callers,
    corners_at,
    first_fault,
    has_twice,
    is_below,
    is_from,
    is_permutation,
    is_pocket,
    is_tuple_of,
    moves,
)


def edges_of(table):
    """Return the ascending tuple of all EDGES."""
    size = table[0]
    rights, ups = table[2:4]
    edges = [(side, cell) for side in ("right", "up") for cell in range(size)]
    edges.extend([("left", cell) for cell in range(size) if cell not in rights])
    edges.extend([("down", cell) for cell in range(size) if cell not in ups])
    return tuple(sorted(edges))


def edge_at(rights, ups, side, cell):
    """Return the EDGE that lies at a SIDE of a CELL."""
    if side == "left" and cell in rights:
        return ("right", rights.index(cell))
    if side == "down" and cell in ups:
        return ("up", ups.index(cell))
    return (side, cell)


def edge_ahead(table, label, is_up):
    """Return the EDGE over which a LABEL is led by going SIDEWAYS, or UP."""
    cell, x, y = label[:3]
    if is_up:
        side = "up" if y == 0 else "down"
    else:
        side = "right" if x == 0 else "left"
    return edge_at(table[2], table[3], side, cell)


def joined_to(table, edge):
    """Return the CELL to which an EDGE is JOINED, None if it is a CUSHION."""
    side, cell = edge
    if side == "right":
        return table[2][cell]
    if side == "up":
        return table[3][cell]
    return None


def permutation_of(table, edge):
    """Return the PERMUTATION of marks that an EDGE has."""
    for turning, permutation in table[4]:
        if turning == edge:
            return permutation
    return tuple(range(table[1]))


def corners_of(table):
    """Return the ascending tuple of all CORNERS."""
    return tuple([(cell, x, y) for cell in range(table[0]) for x in (0, 1) for y in (0, 1)])


def point_of(table, corner):
    """Return the POINT of a CORNER."""
    return corners_at(table[2], table[3], corner)


def points_of(table):
    """Return the ascending tuple of all POINTS."""
    least = callers(table[2], table[3])
    points = {}
    for corner in corners_of(table):
        points.setdefault(least[corner], []).append(corner)
    return tuple(sorted([tuple(point) for point in points.values()]))


def pocket_at(table, corner):
    """Return the name of the pocket at the POINT of a CORNER, or None."""
    caller = point_of(table, corner)[0]
    for called, name in table[5]:
        if called == caller:
            return name
    return None


def table_fault(thing):
    """Return None if thing is a TABLE, else the word for its first fault."""
    return first_fault(thing)


def table_of(marks, rights, ups, dials, pockets):
    """Return the TABLE with dials told by SIDE and CELL, and pockets by any CORNER."""
    least = callers(rights, ups)
    turning = [
        (edge_at(rights, ups, side, cell), permutation)
        for side, cell, permutation in dials
        if moves(permutation)
    ]
    called = [(least[corner], name) for corner, name in pockets]
    turning = tuple(sorted(turning))
    called = tuple(sorted(called))
    return (len(rights), marks, tuple(rights), tuple(ups), turning, called)


def are_told(size, thing):
    """Tell whether thing is a list or tuple of size items, each None or a CELL."""
    return isinstance(thing, (list, tuple)) and are_cells(size, thing)


def is_told_dial(size, marks, thing):
    """Tell whether thing is a tuple (side, cell, permutation) of such a TABLE."""
    if not is_tuple_of(3, thing) or not isinstance(thing[0], str) or thing[0] not in SIDES:
        return False
    return is_below(size, thing[1]) and is_permutation(marks, thing[2])


def first_wrong(size, marks, rights, ups, dials, pockets):
    """Return the place of the first argument of made_table that is wrong, or None."""
    if not is_from(1, size):
        return 0
    if not is_from(1, marks):
        return 1
    if not are_told(size, rights):
        return 2
    if not are_told(size, ups):
        return 3
    if not isinstance(dials, (list, tuple)):
        return 4
    if not all([is_told_dial(size, marks, dial) for dial in dials]):
        return 4
    if not isinstance(pockets, (list, tuple)):
        return 5
    if not all([is_pocket(size, pocket) for pocket in pockets]):
        return 5
    return None


def made_table(size, marks, rights, ups, dials, pockets):
    """Return the TABLE that is told so."""
    place = first_wrong(size, marks, rights, ups, dials, pockets)
    if place is not None:
        raise Wrong(place)
    if has_twice([cell for cell in rights if cell is not None]):
        raise NoTable("rights")
    if has_twice([cell for cell in ups if cell is not None]):
        raise NoTable("ups")
    if has_twice([edge_at(rights, ups, dial[0], dial[1]) for dial in dials]):
        raise NoTable("dials")
    least = callers(rights, ups)
    if has_twice([least[pocket[0]] for pocket in pockets]):
        raise NoTable("pockets")
    return table_of(marks, rights, ups, dials, pockets)

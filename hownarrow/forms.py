"""What is what: whether any value is a TABLE, a SLOPE, a WISH and so on."""

from math import gcd

from hownarrow.slopes import less_steep

SIDES = ("right", "up", "left", "down")


def is_integer(thing):
    """Tell whether thing is an integer; True and False are none."""
    return isinstance(thing, int) and not isinstance(thing, bool)


def is_from(low, thing):
    """Tell whether thing is an integer from low on."""
    return is_integer(thing) and thing >= low


def is_below(many, thing):
    """Tell whether thing is an integer from 0 to many - 1."""
    return is_integer(thing) and 0 <= thing < many


def is_tuple_of(many, thing):
    """Tell whether thing is a tuple of so many items."""
    return isinstance(thing, tuple) and len(thing) == many


def ascends(things):
    """Tell whether each item of a list or tuple is less than the next one."""
    return all([things[at] < things[at + 1] for at in range(len(things) - 1)])


def moves(permutation):
    """Tell whether a PERMUTATION moves something."""
    return any([at != item for at, item in enumerate(permutation)])


def is_name(thing):
    """Tell whether thing is a NAME."""
    if not isinstance(thing, str) or not 1 <= len(thing) <= 12:
        return False
    return all(["a" <= letter <= "z" for letter in thing])


def is_name_or_empty(thing):
    """Tell whether thing is a NAME or the empty string."""
    return is_name(thing) or (isinstance(thing, str) and thing == "")


def is_lot(thing):
    """Tell whether thing is a LOT."""
    if not isinstance(thing, tuple):
        return False
    return all([is_from(0, item) for item in thing]) and ascends(thing)


def is_permutation(many, thing):
    """Tell whether thing is a PERMUTATION of many."""
    if not is_tuple_of(many, thing):
        return False
    return all([is_below(many, item) for item in thing]) and len(set(thing)) == many


def is_end(thing):
    """Tell whether thing is an END."""
    if not is_tuple_of(2, thing):
        return False
    return is_from(0, thing[0]) and is_from(0, thing[1]) and gcd(thing[0], thing[1]) == 1


def is_slope(thing):
    """Tell whether thing is a SLOPE."""
    return is_end(thing) and thing[0] > 0 and thing[1] > 0


def is_slope_to(most, thing):
    """Tell whether thing is a SLOPE with numbers up to most."""
    return is_slope(thing) and max(thing) <= most


def is_range(thing):
    """Tell whether thing is a RANGE."""
    if not is_tuple_of(2, thing):
        return False
    return is_end(thing[0]) and is_end(thing[1]) and less_steep(thing[0], thing[1])


def is_word(thing):
    """Tell whether thing is a WORD."""
    return isinstance(thing, str) and all([letter in ("l", "r") for letter in thing])


def backward(row):
    """Return for each CELL the one that row leads to it from, or None."""
    back = [None] * len(row)
    for cell, other in enumerate(row):
        if other is not None:
            back[other] = cell
    return back


def corners_beside(rows, corner):
    """Return the CORNERS that a JOINED edge lays straight at this one."""
    rights, lefts, ups, downs = rows
    cell, x, y = corner
    aside = rights[cell] if x == 1 else lefts[cell]
    over = ups[cell] if y == 1 else downs[cell]
    beside = []
    if aside is not None:
        beside.append((aside, 1 - x, y))
    if over is not None:
        beside.append((over, x, 1 - y))
    return beside


def gathered(rows, corner):
    """Return the ascending list of all CORNERS that are one with this one."""
    met = {corner: True}
    waiting = [corner]
    while waiting:
        here = waiting.pop()
        for other in corners_beside(rows, here):
            if other not in met:
                met[other] = True
                waiting.append(other)
    return sorted(list(met))


def corners_at(rights, ups, corner):
    """Return the POINT of a CORNER: the ascending tuple of all that are one with it."""
    rows = (rights, backward(rights), ups, backward(ups))
    return tuple(gathered(rows, corner))


def callers(rights, ups):
    """Return the dict from each CORNER to the least one that is one with it."""
    rows = (rights, backward(rights), ups, backward(ups))
    least = {}
    for corner in [(cell, x, y) for cell in range(len(rights)) for x in (0, 1) for y in (0, 1)]:
        if corner not in least:
            for one in gathered(rows, corner):
                least[one] = corner
    return least


def is_corner_below(size, thing):
    """Tell whether thing is a CORNER of one of so many CELLS."""
    if not is_tuple_of(3, thing):
        return False
    return is_below(size, thing[0]) and is_below(2, thing[1]) and is_below(2, thing[2])


def is_edge_in(rights, ups, thing):
    """Tell whether thing is an EDGE where CELLS are JOINED so."""
    if not is_tuple_of(2, thing) or not isinstance(thing[0], str):
        return False
    side, cell = thing
    if side not in SIDES or not is_below(len(rights), cell):
        return False
    if side == "left":
        return cell not in rights
    if side == "down":
        return cell not in ups
    return True


def has_twice(things):
    """Tell whether something stands twice in a list of what can be a key."""
    return len(set(things)) < len(things)


def are_cells(size, things):
    """Tell whether a list or tuple has size items, each None or a CELL."""
    if len(things) != size:
        return False
    return all([item is None or is_below(size, item) for item in things])


def is_row(size, thing):
    """Tell whether thing is as rights and ups of a TABLE of so many CELLS."""
    if not isinstance(thing, tuple) or not are_cells(size, thing):
        return False
    return not has_twice([item for item in thing if item is not None])


def is_dial(marks, rights, ups, thing):
    """Tell whether thing is as an item of dials."""
    if not is_tuple_of(2, thing) or not is_edge_in(rights, ups, thing[0]):
        return False
    return is_permutation(marks, thing[1]) and moves(thing[1])


def are_dials(marks, rights, ups, thing):
    """Tell whether thing is as dials of a TABLE."""
    if not isinstance(thing, tuple):
        return False
    if not all([is_dial(marks, rights, ups, item) for item in thing]):
        return False
    return ascends([item[0] for item in thing])


def is_pocket(size, thing):
    """Tell whether thing is a tuple of a CORNER and a NAME."""
    return is_tuple_of(2, thing) and is_corner_below(size, thing[0]) and is_name(thing[1])


def are_pockets(rights, ups, thing):
    """Tell whether thing is as pockets of a TABLE."""
    if not isinstance(thing, tuple):
        return False
    if not all([is_pocket(len(rights), item) for item in thing]):
        return False
    least = callers(rights, ups)
    corners = [item[0] for item in thing]
    return all([least[corner] == corner for corner in corners]) and ascends(corners)


def first_fault(thing):
    """Return the word for the first part that is not as in a TABLE, or None."""
    if not is_tuple_of(6, thing):
        return "form"
    size, marks, rights, ups, dials, pockets = thing
    if not is_from(1, size):
        return "size"
    if not is_from(1, marks):
        return "marks"
    if not is_row(size, rights):
        return "rights"
    if not is_row(size, ups):
        return "ups"
    if not are_dials(marks, rights, ups, dials):
        return "dials"
    if not are_pockets(rights, ups, pockets):
        return "pockets"
    return None


def is_table(thing):
    """Tell whether thing is a TABLE."""
    return first_fault(thing) is None


def is_edge(table, thing):
    """Tell whether thing is an EDGE of a TABLE."""
    return is_edge_in(table[2], table[3], thing)


def is_corner(table, thing):
    """Tell whether thing is a CORNER of one of the CELLS of a TABLE."""
    return is_corner_below(table[0], thing)


def is_label(table, thing):
    """Tell whether thing is a LABEL of a TABLE."""
    if not is_tuple_of(4, thing):
        return False
    return is_corner_below(table[0], thing[:3]) and is_below(table[1], thing[3])


def is_outcome(thing):
    """Tell whether thing is an OUTCOME of some SHOT."""
    if not isinstance(thing, tuple) or len(thing) not in (2, 4) or not isinstance(thing[0], str):
        return False
    if len(thing) == 2:
        return thing[0] == "round" and is_from(1, thing[1])
    return thing[0] == "falls" and is_kind(thing[1:3]) and is_from(1, thing[3])


def is_kind(thing):
    """Tell whether thing is a tuple (name, mark), as PICTURES have it."""
    return is_tuple_of(2, thing) and is_name_or_empty(thing[0]) and is_from(0, thing[1])


def are_numbered(sides, ups):
    """Tell whether two PERMUTATIONS lead from 0 to all others, met in ascending order."""
    met = 1
    for at in range(len(sides)):
        if at == met:
            return False
        for there in (sides[at], ups[at]):
            if there > met:
                return False
            if there == met:
                met += 1
    return True


def is_picture(thing):
    """Tell whether thing is a PICTURE."""
    if not is_tuple_of(3, thing) or not isinstance(thing[0], tuple) or thing[0] == ():
        return False
    sides, ups, kinds = thing
    many = len(sides)
    if not is_permutation(many, sides) or not is_permutation(many, ups):
        return False
    if not is_tuple_of(many, kinds) or not all([kind is None or is_kind(kind) for kind in kinds]):
        return False
    return are_numbered(sides, ups)


def is_wish(thing):
    """Tell whether thing is a WISH."""
    if not is_tuple_of(5, thing):
        return False
    names, marks, least, most, rounds = thing
    if not isinstance(names, tuple) or not all([is_name_or_empty(name) for name in names]):
        return False
    if not ascends(names) or not is_lot(marks):
        return False
    return is_from(1, least) and is_integer(most) and least <= most and isinstance(rounds, bool)

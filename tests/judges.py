"""What is what [2], judged once more without the package, and values with one part otherwise."""

from math import gcd

from tests import plain


def whole(thing, low=0, below=None):
    """An integer from low on, below a bound if there is one."""
    return type(thing) is int and thing >= low and (below is None or thing < below)


def parts(thing, many):
    return type(thing) is tuple and len(thing) == many


def name(thing):
    return type(thing) is str and 0 < len(thing) < 13 and not thing.strip("abcdefghijklmnopqrstuvwxyz")


def name_or_empty(thing):
    return type(thing) is str and (thing == "" or name(thing))


def lot(thing):
    return type(thing) is tuple and all(whole(item) for item in thing) and list(thing) == sorted(set(thing))


def permutation(many, thing):
    return parts(thing, many) and all(whole(item) for item in thing) and sorted(thing) == list(range(len(thing)))


def end(thing):
    return parts(thing, 2) and whole(thing[0]) and whole(thing[1]) and gcd(*thing) == 1


def slope(thing):
    return end(thing) and 0 not in thing


def within(thing):
    return parts(thing, 2) and end(thing[0]) and end(thing[1]) and thing[0][0] * thing[1][1] > thing[0][1] * thing[1][0]


def word(thing):
    return type(thing) is str and thing.strip("lr") == ""


def corner(size, thing):
    return parts(thing, 3) and whole(thing[0], 0, size) and whole(thing[1], 0, 2) and whole(thing[2], 0, 2)


def label(table, thing):
    return parts(thing, 4) and corner(table[0], thing[:3]) and whole(thing[3], 0, table[1])


def edge(table, thing):
    if not parts(thing, 2) or type(thing[0]) is not str or type(thing[1]) is not int:
        return False
    return thing in plain.edges(table)


def outcome(thing):
    if parts(thing, 2):
        return type(thing[0]) is str and thing[0] == "round" and whole(thing[1], 1)
    if not parts(thing, 4) or type(thing[0]) is not str or thing[0] != "falls":
        return False
    return name_or_empty(thing[1]) and whole(thing[2]) and whole(thing[3], 1)


def kind(thing):
    return thing is None or (parts(thing, 2) and name_or_empty(thing[0]) and whole(thing[1]))


def picture(thing):
    if not parts(thing, 3) or type(thing[0]) is not tuple or not thing[0]:
        return False
    sides, ups, kinds = thing
    many = len(sides)
    if not permutation(many, sides) or not permutation(many, ups):
        return False
    if not parts(kinds, many) or not all(kind(item) for item in kinds):
        return False
    met = [0]
    for at in met:
        for there in (sides[at], ups[at]):
            if there not in met:
                met.append(there)
    return met == list(range(many))


def wish(thing):
    if not parts(thing, 5) or type(thing[0]) is not tuple or not all(name_or_empty(item) for item in thing[0]):
        return False
    if list(thing[0]) != sorted(set(thing[0])) or not lot(thing[1]):
        return False
    return whole(thing[2], 1) and whole(thing[3], thing[2]) and type(thing[4]) is bool


def row(size, thing):
    if not parts(thing, size):
        return False
    cells = [cell for cell in thing if cell is not None]
    return all(whole(cell, 0, size) for cell in cells) and len(cells) == len(set(cells))


def dials(bare, thing):
    if type(thing) is not tuple or not all(parts(item, 2) and edge(bare, item[0]) for item in thing):
        return False
    marks = bare[1]
    for _, turning in thing:
        if not permutation(marks, turning) or turning == tuple(range(len(turning))):
            return False
    told = [item[0] for item in thing]
    return told == sorted(set(told))


def pockets(bare, thing):
    if type(thing) is not tuple or not all(parts(item, 2) and corner(bare[0], item[0]) for item in thing):
        return False
    called = [one[0] for one in plain.points(bare)]
    told = [item[0] for item in thing]
    return all(name(item[1]) and item[0] in called for item in thing) and told == sorted(set(told))


def fault(thing):
    """The word of table_fault."""
    if not parts(thing, 6):
        return "form"
    if not whole(thing[0], 1):
        return "size"
    if not whole(thing[1], 1):
        return "marks"
    if not row(thing[0], thing[2]):
        return "rights"
    if not row(thing[0], thing[3]):
        return "ups"
    bare = thing[:4] + ((), ())
    if not dials(bare, thing[4]):
        return "dials"
    if not pockets(bare, thing[5]):
        return "pockets"
    return None


def otherwise(rng, thing):
    """The same value with one part of it, or the whole, otherwise."""
    if type(thing) in (tuple, list) and thing and rng.random() < 0.75:
        at = rng.randrange(len(thing))
        changed = list(thing)
        changed[at] = otherwise(rng, thing[at])
        return type(thing)(changed)
    if type(thing) in (tuple, list):
        items = list(thing)
        what = rng.randrange(6)
        if what == 0:
            return items if type(thing) is tuple else tuple(items)
        if what == 1 and items:
            del items[rng.randrange(len(items))]
        elif what == 2 and items:
            items.insert(rng.randrange(len(items) + 1), rng.choice(items))
        elif what == 3:
            items.append(rng.choice((0, 1, None, (), "a")))
        elif what == 4 and len(items) > 1:
            one, two = rng.sample(range(len(items)), 2)
            items[one], items[two] = items[two], items[one]
        else:
            return rng.choice((None, 0, (), {}, "l", tuple(items[::-1])))
        return type(thing)(items)
    if type(thing) is int:
        return rng.choice((thing + 1, thing - 1, bool(thing), -thing, str(thing), (thing,), None, thing * 2, 0, 1))
    if type(thing) is str:
        return rng.choice((thing + "a", thing[1:], thing + "A", thing * 13, "", None, 0, [thing], "left", "down", "b"))
    return rng.choice((0, 1, True, False, None, "", "a", (), [], ("a", 0), ("", 1), ("A", 0), ["a", 0]))

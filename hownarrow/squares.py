"""Labels as numbers, permutations of them, and the way round a point."""

from math import lcm

from hownarrow.forms import callers
from hownarrow.labels import labels_of, ways_of
from hownarrow.points import falls_of
from hownarrow.tables import point_of


def number_of(table, label):
    """Return the NUMBER of a LABEL."""
    cell, x, y, mark = label
    return (4 * cell + 2 * x + y) * table[1] + mark


def label_of(table, number):
    """Return the LABEL that has a NUMBER."""
    quarter, mark = divmod(number, table[1])
    return (quarter // 4, quarter // 2 % 2, quarter % 2, mark)


def numbers_led(table, is_up):
    """Return the PERMUTATION of NUMBERS by going SIDEWAYS, or UP if is_up is True."""
    ways = ways_of(table, is_up)
    return tuple([number_of(table, ways[label]) for label in labels_of(table)])


def sides_of(table):
    """Return the PERMUTATION of NUMBERS by going SIDEWAYS."""
    return numbers_led(table, False)


def ups_of(table):
    """Return the PERMUTATION of NUMBERS by going UP."""
    return numbers_led(table, True)


def kinds_of(table):
    """Return for each NUMBER None, or (name, mark) if a ball falls there."""
    falls = falls_of(table)
    least = callers(table[2], table[3])
    names = {corner: falls.get(least[corner]) for corner in least}
    return tuple([
        None if names[label[:3]] is None else (names[label[:3]], label[3])
        for label in labels_of(table)
    ])


def one_then(one, other):
    """Return the PERMUTATION that does one and then the other one."""
    return tuple([other[item] for item in one])


def turned_back(one):
    """Return the PERMUTATION that undoes one."""
    back = [0] * len(one)
    for at, item in enumerate(one):
        back[item] = at
    return tuple(back)


def cycles_of(one):
    """Return for each round of a PERMUTATION the list of its members as they are led."""
    cycles = []
    met = [False] * len(one)
    for start in range(len(one)):
        cycle = []
        at = start
        while not met[at]:
            met[at] = True
            cycle.append(at)
            at = one[at]
        if cycle:
            cycles.append(cycle)
    return cycles


def often(one, many):
    """Return what comes of doing a PERMUTATION many times."""
    done = [0] * len(one)
    for cycle in cycles_of(one):
        for at, item in enumerate(cycle):
            done[item] = cycle[(at + many) % len(cycle)]
    return tuple(done)


def rounds_of(one):
    """Return the ascending list of the ascending tuples of those led to one another."""
    return [tuple(sorted(cycle)) for cycle in cycles_of(one)]


def order_of(one):
    """Return how often a PERMUTATION is done until nothing is moved."""
    many = 1
    for cycle in cycles_of(one):
        many = lcm(many, len(cycle))
    return many


def turns_of(table):
    """Return the PERMUTATION of NUMBERS that goes once round the POINT of each LABEL."""
    sides = sides_of(table)
    ups = ups_of(table)
    return one_then(turned_back(one_then(sides, ups)), one_then(ups, sides))


def turns_at(table, corner):
    """Return the ascending list of LABELS at a POINT that turns_of leads to one another."""
    point = point_of(table, corner)
    found = []
    for numbers in rounds_of(turns_of(table)):
        labels = tuple([label_of(table, number) for number in numbers])
        if labels[0][:3] in point:
            found.append(labels)
    return found

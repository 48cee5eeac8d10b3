"""Alike: whether two TABLES with SPOTS have the same OUTCOME for ALL SLOPES."""

from hownarrow.errors import TooMany
from hownarrow.forms import are_numbered, has_twice, is_below, is_picture, is_tuple_of
from hownarrow.graphs import MOST
from hownarrow.growing import Growing
from hownarrow.pictures import first_picture, led, outcome_of
from hownarrow.settled import ALL, simplest_with


def couples_of(one, spot, other, second):
    """Return the tuple of rows (mine, its, left, right) of the COUPLES behind all WORDS."""
    mine = Growing(first_picture(one, spot), MOST)
    its = Growing(first_picture(other, second), MOST)
    couples = [(0, 0)]
    places = {(0, 0): 0}
    ways = []
    while len(ways) < len(couples):
        first, last = couples[len(ways)]
        way = []
        for letter in ("l", "r"):
            there = (mine.led_to(first, letter), its.led_to(last, letter))
            if there not in places:
                if len(couples) == MOST:
                    raise TooMany(MOST)
                places[there] = len(couples)
                couples.append(there)
            way.append(places[there])
        ways.append(way)
    return tuple([
        (mine.pictures[first], its.pictures[last], left, right)
        for (first, last), (left, right) in zip(couples, ways)
    ])


def which_part(rows):
    """Return the list that tells of each row whether its PICTURES have unlike OUTCOMES."""
    return [outcome_of(row[0]) != outcome_of(row[1]) for row in rows]


def are_alike(one, spot, other, second):
    """Tell whether both have the same OUTCOME for ALL SLOPES."""
    return not any(which_part(couples_of(one, spot, other, second)))


def parting_slope(one, spot, other, second):
    """Return the SIMPLEST SLOPE with unlike OUTCOMES, None if they are alike."""
    rows = couples_of(one, spot, other, second)
    ways = [((mine, its), left, right) for mine, its, left, right in rows]
    return simplest_with(ways, which_part(rows), ALL)


def is_row(many, thing):
    """Tell whether thing is a tuple of two PICTURES and of two indexes of many rows."""
    if not is_tuple_of(4, thing) or not is_picture(thing[0]) or not is_picture(thing[1]):
        return False
    return is_below(many, thing[2]) and is_below(many, thing[3])


def are_led(rows):
    """Tell whether each row tells the two rows of the COUPLES that are led from its own."""
    for mine, its, left, right in rows:
        if (led(mine, "l"), led(its, "l")) != rows[left][:2]:
            return False
        if (led(mine, "r"), led(its, "r")) != rows[right][:2]:
            return False
    return True


def is_couples(one, spot, other, second, thing):
    """Tell whether thing is what couples_of returns."""
    if not isinstance(thing, tuple) or not 1 <= len(thing) <= MOST:
        return False
    if not all([is_row(len(thing), row) for row in thing]):
        return False
    if thing[0][:2] != (first_picture(one, spot), first_picture(other, second)):
        return False
    if has_twice([row[:2] for row in thing]):
        return False
    return are_numbered([row[2] for row in thing], [row[3] for row in thing]) and are_led(thing)

"""Cushions: how often a ball is thrown back, and with which SLOPE it is so the least often."""

from hownarrow.pictures import numbered_from, outcome_of
from hownarrow.settled import ALL
from hownarrow.slopes import plainness
from hownarrow.squares import kinds_of, label_of, number_of, sides_of, ups_of
from hownarrow.wishes import meets
from hownarrow.words import middle_of, next_neighbours, steps_to

# A WAY here is a tuple of a PERMUTATION and of how many THROWS there are on it from each one.


def throws_by(table, ways, at):
    """Return the tuple of 1 for each NUMBER from which a CUSHION throws back, which turns the item at of a LABEL."""
    return tuple([
        1 if label_of(table, here)[at] != label_of(table, there)[at] else 0
        for here, there in enumerate(ways)
    ])


def first_ways(table, label):
    """Return the WAYS SIDEWAYS and UP and the kinds, numbered from a SPOT on as a PICTURE is."""
    sides = sides_of(table)
    ups = ups_of(table)
    told = list(zip(kinds_of(table), throws_by(table, sides, 1), throws_by(table, ups, 2)))
    aside, over, told = numbered_from(number_of(table, label), sides, ups, told)
    kinds = tuple([kind for kind, _, _ in told])
    return ((aside, [side for _, side, _ in told]), (over, [one for _, _, one in told]), kinds)


def way_then(one, other):
    """Return the WAY that is one and then the other one."""
    first, mine = one
    second, its = other
    return ([second[at] for at in first], [many + its[at] for many, at in zip(mine, first)])


def way_often(way, many):
    """Return the WAY that is one gone many times, at least once."""
    done = None
    # Gone once, twice, four times and so on, as it may be very many times.
    while many > 0:
        if many & 1:
            done = way if done is None else way_then(done, way)
        way = way_then(way, way)
        many //= 2
    return done


def ends_of(aside, over):
    """Return the list of how many THROWS there would be at the end of the STRETCH that comes to each one."""
    sides, side_throws = aside
    ups, up_throws = over
    ends = [0] * len(sides)
    for here, there in enumerate(sides):
        ends[ups[there]] = side_throws[here] + up_throws[there]
    return ends


def throws_of(aside, over, kinds, ends):
    """Return how many THROWS the SHOT from 0 has, with WAYS that stand behind a WORD."""
    here = 0
    many = 0
    while True:
        there = aside[0][here]
        many += aside[1][here] + over[1][there]
        here = over[0][there]
        many -= ends[here]
        if here == 0 or kinds[here] is not None:
            return many


def cushions_of(table, label, slope):
    """Return how many THROWS a SHOT has."""
    aside, over, kinds = first_ways(table, label)
    ends = ends_of(aside, over)
    for letter, many in steps_to(slope):
        if letter == "l":
            over = way_then(way_often(aside, many), over)
        else:
            aside = way_then(way_often(over, many), aside)
    return throws_of(aside, over, kinds, ends)


def shots_met(table, label, wish, most):
    """Return the list of tuples (THROWS, what is less for a SIMPLER SLOPE, SLOPE) of those that a WISH MEETS.

    SLOPES with p + q at most most are asked.
    """
    aside, over, kinds = first_ways(table, label)
    ends = ends_of(aside, over)
    shots = []
    waiting = [(ALL, aside, over)] if most >= 2 else []
    while waiting:
        neighbours, aside, over = waiting.pop()
        slope = middle_of(neighbours)
        if meets(wish, outcome_of((aside[0], over[0], kinds))):
            shots.append((throws_of(aside, over, kinds, ends), plainness(slope), slope))
        if sum(slope) + sum(neighbours[0]) <= most:
            waiting.append((next_neighbours(neighbours, "l"), aside, way_then(aside, over)))
        if sum(slope) + sum(neighbours[1]) <= most:
            waiting.append((next_neighbours(neighbours, "r"), way_then(over, aside), over))
    return shots


def fewest(table, label, wish, most):
    """Return (SLOPE, THROWS) of the SHOT with the fewest THROWS that a WISH MEETS, up to a bound, or None."""
    shots = shots_met(table, label, wish, most)
    if not shots:
        return None
    throws, _, slope = min(shots)
    return (slope, throws)

"""Least graphs: what comes behind each WORD, told with as few rows as can be."""

from hownarrow.forms import are_numbered, is_below, is_outcome, is_permutation, is_tuple_of
from hownarrow.graphs import row_at
from hownarrow.pictures import numbered, outcome_of
from hownarrow.squares import rounds_of
from hownarrow.words import steps_to


def kinds_told_apart(goals, lefts, rights):
    """Return a list with the same integer for rows that are ALIKE, and unlike ones for all others.

    goals has what stands in each row; lefts and rights lead from row to row.
    """
    numbers = {}
    kinds = [numbers.setdefault(goal, len(numbers)) for goal in goals]
    many = 0
    # Told apart by no letter, then by one letter at most, by two, until one letter more tells nothing new.
    while many < len(numbers):
        many = len(numbers)
        numbers = {}
        kinds = [
            numbers.setdefault((kind, kinds[left], kinds[right]), len(numbers))
            for kind, left, right in zip(kinds, lefts, rights)
        ]
    return kinds


def least_of(rows):
    """Return the LEAST GRAPH that has the same OUTCOME behind each WORD as a GRAPH."""
    outcomes = [outcome_of(row[0]) for row in rows]
    lefts = [row[1] for row in rows]
    rights = [row[2] for row in rows]
    kinds = kinds_told_apart(outcomes, lefts, rights)
    first = {}
    for at, kind in enumerate(kinds):
        first.setdefault(kind, at)
    # Kinds count from 0 on as they come in the rows, so first has them in ascending order.
    aside = [kinds[lefts[at]] for at in first.values()]
    over = [kinds[rights[at]] for at in first.values()]
    told = [outcomes[at] for at in first.values()]
    sides, ups, named = numbered(aside, over, told)
    return tuple([(outcome, left, right) for left, right, outcome in zip(sides, ups, named)])


def is_row(many, thing):
    """Tell whether thing is a tuple of an OUTCOME and of two indexes of many rows."""
    if not is_tuple_of(3, thing):
        return False
    return is_outcome(thing[0]) and is_below(many, thing[1]) and is_below(many, thing[2])


def is_least(thing):
    """Tell whether thing is a LEAST GRAPH."""
    if not isinstance(thing, tuple) or thing == ():
        return False
    many = len(thing)
    if not all([is_row(many, row) for row in thing]):
        return False
    lefts = tuple([row[1] for row in thing])
    rights = tuple([row[2] for row in thing])
    if not is_permutation(many, lefts) or not is_permutation(many, rights):
        return False
    if not are_numbered(lefts, rights):
        return False
    return len(set(kinds_told_apart([row[0] for row in thing], lefts, rights))) == many


def row_behind(least, word):
    """Return the index of the row to which a WORD leads from the first one."""
    return row_at(least, word)


def led_often(ways, row, many):
    """Return the row to which ways lead from this one in many steps."""
    met = [row]
    while len(met) <= many and ways[met[-1]] != row:
        met.append(ways[met[-1]])
    # Either as many steps were gone, or one is back, and goes round.
    return met[many % len(met)]


def row_of_slope(least, slope):
    """Return the index of the row behind the WORD of a SLOPE of any size."""
    ways = {"l": [row[1] for row in least], "r": [row[2] for row in least]}
    here = 0
    for letter, many in steps_to(slope):
        here = led_often(ways[letter], here, many)
    return here


def outcome_by(least, slope):
    """Return the OUTCOME of the row behind the WORD of a SLOPE."""
    return least[row_of_slope(least, slope)][0]


def rounds_by(least, letter):
    """Return the ascending list of the ascending tuples of rows that a letter leads to one another."""
    return rounds_of(tuple([row[1 if letter == "l" else 2] for row in least]))

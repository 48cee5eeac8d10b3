"""Remainders: whether what comes is told by the remainders of p and q by a number."""

from hownarrow.errors import TooMany
from hownarrow.forms import is_slope, is_tuple_of
from hownarrow.leastgraph import outcome_by
from hownarrow.squares import order_of
from hownarrow.words import slope_of

MOST = 20000
# The REMAINDERS of NEIGHBOURS are all couples with p * s - q * r = 1: of these there are more than
# 6 / 10 of number ** 3, so by a greater number than this there are too many.
SURE = 32


def level_of(least):
    """Return the least common multiple of the lengths of the rounds by l."""
    return order_of(tuple([row[1] for row in least]))


def remainders(number, end):
    """Return the REMAINDERS of an END."""
    return (end[0] % number, end[1] % number)


def both_by(number, couple):
    """Return the REMAINDERS of the sum of two ENDS."""
    first, second = couple
    return remainders(number, (first[0] + second[0], first[1] + second[1]))


def couples_by(number):
    """Return the list of rows (of the SLOPE, left, right) for all REMAINDERS of the NEIGHBOURS of WORDS."""
    if number > SURE:
        raise TooMany(MOST)
    start = (remainders(number, (1, 0)), remainders(number, (0, 1)))
    places = {start: 0}
    met = [start]
    rows = []
    while len(rows) < len(met):
        first, second = met[len(rows)]
        both = both_by(number, (first, second))
        ways = []
        for there in ((first, both), (both, second)):
            if there not in places:
                if len(met) == MOST:
                    raise TooMany(MOST)
                places[there] = len(met)
                met.append(there)
            ways.append(places[there])
        rows.append((both, ways[0], ways[1]))
    return rows


def marks_met(least, couples):
    """Return the dict from the number of each MARK to (number, letter) from which it was met, or to None.

    The number of a MARK is that of its row times the number of couples, and the index of its couple.
    """
    many = len(couples)
    before = {0: None}
    met = [0]
    done = 0
    while done < len(met):
        mark = met[done]
        _, left, right = least[mark // many]
        _, aside, over = couples[mark % many]
        for letter, there in (("l", left * many + aside), ("r", right * many + over)):
            if there not in before:
                if len(met) == MOST:
                    raise TooMany(MOST)
                before[there] = (mark, letter)
                met.append(there)
        done += 1
    return before


def marks_many(least, number):
    """Return how many MARKS there are."""
    return len(marks_met(least, couples_by(number)))


def told_at(least, couples, mark):
    """Return the REMAINDERS of the SLOPE at the number of a MARK, and its OUTCOME."""
    many = len(couples)
    return (couples[mark % many][0], least[mark // many][0])


def first_unlike(least, couples, marks):
    """Return the numbers of two MARKS with the same REMAINDERS of SLOPES and unlike OUTCOMES, or None."""
    met = {}
    for mark in marks:
        slope, outcome = told_at(least, couples, mark)
        other, told = met.setdefault(slope, (mark, outcome))
        if told != outcome:
            return (other, mark)
    return None


def is_told_by(least, number):
    """Tell whether SLOPES with the same REMAINDERS have the same OUTCOME."""
    couples = couples_by(number)
    return first_unlike(least, couples, marks_met(least, couples)) is None


def remainder_table(least, number):
    """Return the dict from the REMAINDERS of all SLOPES to the OUTCOME, None if they do not tell it."""
    couples = couples_by(number)
    marks = marks_met(least, couples)
    if first_unlike(least, couples, marks) is not None:
        return None
    told = {}
    for mark in marks:
        slope, outcome = told_at(least, couples, mark)
        told[slope] = outcome
    return {slope: told[slope] for slope in sorted(list(told))}


def slope_at(before, mark):
    """Return the SLOPE of the WORD by which the MARK with a number was met."""
    letters = []
    while before[mark] is not None:
        mark, letter = before[mark]
        letters.append(letter)
    return slope_of("".join(letters[::-1]))


def unlike_slopes(least, number):
    """Return a tuple of two SLOPES with the same REMAINDERS and unlike OUTCOMES, or None."""
    couples = couples_by(number)
    before = marks_met(least, couples)
    unlike = first_unlike(least, couples, before)
    if unlike is None:
        return None
    return (slope_at(before, unlike[0]), slope_at(before, unlike[1]))


def are_unlike(least, number, thing):
    """Tell whether thing is a tuple of two SLOPES with the same REMAINDERS and unlike OUTCOMES."""
    if not is_tuple_of(2, thing) or not is_slope(thing[0]) or not is_slope(thing[1]):
        return False
    if remainders(number, thing[0]) != remainders(number, thing[1]):
        return False
    return outcome_by(least, thing[0]) != outcome_by(least, thing[1])

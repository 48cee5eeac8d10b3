"""Rounds of shots: what comes when the same letters are told again and again."""

from hownarrow.errors import TooMany
from hownarrow.graphs import MOST
from hownarrow.pictures import led_along, outcome_of, picture_at
from hownarrow.words import middle_of, neighbours_of


def along(table, label, word, more):
    """Return the tuple of the OUTCOMES of a WORD, of it and more, of it and more and more, until all is as before."""
    start = picture_at(table, label, word)
    outcomes = [outcome_of(start)]
    here = led_along(start, more)
    while here != start:
        if len(outcomes) == MOST:
            raise TooMany(MOST)
        outcomes.append(outcome_of(here))
        here = led_along(here, more)
    return tuple(outcomes)


def made_up(neighbours, end):
    """Return the END that is made of two NEIGHBOURS as this one is of (1, 0) and (0, 1)."""
    first, second = neighbours
    return (end[0] * first[0] + end[1] * second[0], end[0] * first[1] + end[1] * second[1])


def told_behind(neighbours, more):
    """Return the NEIGHBOURS of two WORDS together, of those of the first and of the second one."""
    return (made_up(neighbours, more[0]), made_up(neighbours, more[1]))


def slope_along(word, more, many):
    """Return the SLOPE of a WORD with more told many times behind it."""
    neighbours = neighbours_of(word)
    doubled = neighbours_of(more)
    # Told 1, 2, 4, 8 and so on times, as there may be very many letters.
    while many > 0:
        if many & 1:
            neighbours = told_behind(neighbours, doubled)
        doubled = told_behind(doubled, doubled)
        many //= 2
    return middle_of(neighbours)

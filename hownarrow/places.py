"""Places and times: where the ball of a SHOT is, and when it crosses an EDGE."""

from math import gcd

from hownarrow.balls import lines_crossed, numbers_gone
from hownarrow.errors import NoShot
from hownarrow.labels import labels_of, sideways, up
from hownarrow.squares import kinds_of, label_of, sides_of, ups_of
from hownarrow.tables import edge_ahead


def fraction(top, bottom):
    """Return top by bottom as a FRACTION."""
    shared = gcd(top, bottom)
    return (top // shared, bottom // shared)


def along_cell(gone, bottom, at):
    """Return how far from its left or lower edge a ball is in its CELL.

    It has gone so many parts of a CELL, bottom of which are a whole one, since
    it set out, and it came into the CELL at the end that at tells: 0 or 1.
    """
    # At a line the ball is at the far end of the CELL that it leaves.
    within = (gone - 1) % bottom + 1
    return fraction(within if at == 0 else bottom - within, bottom)


def place_within(table, label, slope, top, bottom):
    """Return the place of a ball when it has gone top by bottom of a STRETCH, above 0, at most 1."""
    p, q = slope
    # Of the lines to the side, and of those up, these are crossed ahead of this time.
    many = (top * p - 1) // bottom + (top * q - 1) // bottom
    here = label
    for is_up in lines_crossed(slope)[:many]:
        here = up(table, here) if is_up else sideways(table, here)
    cell, x, y, mark = here
    return (cell, along_cell(top * p, bottom, x), along_cell(top * q, bottom, y), mark)


def place_at(table, label, slope, time):
    """Return (cell, x, y, mark) of the ball of a SHOT just ahead of a TIME."""
    top, bottom = time
    if top == 0:
        cell, x, y, mark = label
        return (cell, (x, 1), (y, 1), mark)
    kinds = kinds_of(table)
    gone = numbers_gone(table, label, slope, kinds)
    many = len(gone) - 1
    if kinds[gone[-1]] is not None and top > many * bottom:
        raise NoShot()
    # Just ahead of a whole TIME the ball is still in the STRETCH that ends then.
    done = (top - 1) // bottom
    start = label_of(table, gone[done % many])
    return place_within(table, start, slope, top - done * bottom, bottom)


def times_of_lines(slope):
    """Return for each line that a STRETCH crosses (is_up, top, bottom): when, as part of the STRETCH."""
    p, q = slope
    times = []
    side = 0
    over = 0
    for is_up in lines_crossed(slope):
        if is_up:
            over += 1
            times.append((True, over, q))
        else:
            side += 1
            times.append((False, side, p))
    return times


def times_over(table, label, slope, edge):
    """Return the tuple of the TIMES at which a SHOT crosses an EDGE."""
    sides = sides_of(table)
    ups = ups_of(table)
    # Asked once for each NUMBER, as one EDGE may be asked of very many lines.
    aside = [edge_ahead(table, one, False) == edge for one in labels_of(table)]
    over = [edge_ahead(table, one, True) == edge for one in labels_of(table)]
    lines = times_of_lines(slope)
    times = []
    for done, start in enumerate(numbers_gone(table, label, slope, kinds_of(table))[:-1]):
        here = start
        for is_up, top, bottom in lines:
            is_there = over[here] if is_up else aside[here]
            if is_there:
                times.append(fraction(done * bottom + top, bottom))
            here = ups[here] if is_up else sides[here]
    return tuple(times)

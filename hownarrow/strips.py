"""Strips: which LABELS lie on one line of CORNERS, and which lines lie side by side."""

from hownarrow.forms import callers
from hownarrow.pictures import both_behind
from hownarrow.points import holes_of
from hownarrow.squares import cycles_of, label_of, number_of, one_then, sides_of, ups_of
from hownarrow.words import steps_to


def ways_behind(table, slope):
    """Return the two PERMUTATIONS of NUMBERS that stand behind the WORD of a SLOPE [10].

    The first one then the second one is a STRETCH, the second one then the first one a STRETCH
    ABOVE; the second one alone is a STRETCH of the second NEIGHBOUR, or, if this is (0, 1), to go UP.
    """
    return both_behind(sides_of(table), ups_of(table), steps_to(slope))


def ways_above(table, slope):
    """Return the PERMUTATION of NUMBERS by a STRETCH ABOVE."""
    aside, over = ways_behind(table, slope)
    return one_then(over, aside)


def labels_named(table, numbers):
    """Return the tuple of the LABELS with these NUMBERS, in their order."""
    return tuple([label_of(table, number) for number in numbers])


def above(table, label, slope):
    """Return the LABEL to which a STRETCH ABOVE leads."""
    return label_of(table, ways_above(table, slope)[number_of(table, label)])


def rows_of(table, slope):
    """Return the ascending tuple of all ROWS."""
    # NUMBERS ascend as LABELS do, and each cycle begins with its least one.
    return tuple([labels_named(table, cycle) for cycle in cycles_of(ways_above(table, slope))])


def row_of(table, label, slope):
    """Return the ROW of a LABEL."""
    return [row for row in rows_of(table, slope) if label in row][0]


def corners_in_holes(table):
    """Return the dict with each CORNER at a HOLE."""
    holes = holes_of(table)
    least = callers(table[2], table[3])
    return {corner: True for corner in least if least[corner] in holes}


def rows_above(table, slope, rows):
    """Return the list of the index of the ROW ABOVE for each of all ROWS, None where there is none."""
    over = ways_behind(table, slope)[1]
    in_holes = corners_in_holes(table)
    places = {label: at for at, row in enumerate(rows) for label in row}
    found = []
    for row in rows:
        line = labels_named(table, [over[number_of(table, label)] for label in row])
        is_open = not any([label[:3] in in_holes for label in line])
        found.append(places[line[0]] if is_open else None)
    return found


def row_above(table, slope, row):
    """Return the ROW ABOVE a ROW, None if its UPPER LINE is not OPEN."""
    rows = rows_of(table, slope)
    there = rows_above(table, slope, rows)[rows.index(row)]
    return None if there is None else rows[there]


def strip_from(start, beyond):
    """Return the list of the indexes of ROWS from one on upward, each once, and whether it comes round."""
    strip = [start]
    there = beyond[start]
    while there is not None and there != start:
        strip.append(there)
        there = beyond[there]
    return (strip, there == start)


def strips_of(table, slope):
    """Return the tuple of STRIPS, in ascending order of their least LABELS."""
    rows = rows_of(table, slope)
    beyond = rows_above(table, slope, rows)
    is_above = {there: True for there in beyond}
    # From the ROWS that are above none on; what is left comes round, from its least LABEL on.
    starts = [at for at in range(len(rows)) if at not in is_above]
    starts.extend([at for at in range(len(rows)) if at in is_above])
    met = {}
    strips = []
    for start in starts:
        if start not in met:
            strip, is_round = strip_from(start, beyond)
            for at in strip:
                met[at] = True
            strips.append((min(strip), strip, is_round))
    return tuple([
        (len(rows[strip[0]]), tuple([rows[at] for at in strip]), is_round)
        for _, strip, is_round in sorted(strips)
    ])

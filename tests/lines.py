"""Lines of CORNERS and balls beside them [33] and [34], done once more in the plain.

A ball is followed in the plane, cell by cell; nothing here is imported from the package.
"""

from fractions import Fraction

from tests import plain, trees


def gone_along(table, label, lines):
    """The LABEL behind lines, for each of which it is told whether it is one up."""
    for is_up in lines:
        label = plain.go(table, label, is_up)
    return label


def above(table, label, slope):
    """The LABEL to which a STRETCH ABOVE leads."""
    return gone_along(table, label, plain.crossings(slope) + [True, False])


def turned(row):
    """A list as a tuple, turned about so that the least one stands first."""
    at = row.index(min(row))
    return tuple(row[at:] + row[:at])


def row(table, label, slope):
    found = [label]
    while above(table, found[-1], slope) != label:
        found.append(above(table, found[-1], slope))
    return turned(found)


def rows(table, slope):
    return tuple(sorted({row(table, label, slope) for label in plain.all_labels(table)}))


def upper_line(table, slope, one):
    """The LABELS of the UPPER LINE of a ROW."""
    word = trees.words_to(sum(slope))[slope]
    second = trees.below(word)[1]
    lines = [True] if second == (0, 1) else plain.crossings(second) + [False, True]
    return [gone_along(table, label, lines) for label in one]


def row_above(table, slope, one):
    line = upper_line(table, slope, one)
    kept = plain.kept(table)
    for label in line:
        for corner in plain.point(table, label[:3]):
            if any(corner + (mark,) not in kept for mark in range(table[1])):
                return None
    found = row(table, line[0], slope)
    assert sorted(found) == sorted(line)
    return found


def strips(table, slope):
    """All STRIPS: from each ROW that is above none, and then from the least one that is left."""
    beyond = {one: row_above(table, slope, one) for one in rows(table, slope)}
    found = []
    left = dict(beyond)
    for start in sorted(beyond):
        if start not in beyond.values():
            strip = [start]
            while beyond[strip[-1]] is not None:
                strip.append(beyond[strip[-1]])
            for one in strip:
                del left[one]
            found.append((len(start), tuple(strip), False))
    while left:
        strip = [min(left)]
        while beyond[strip[-1]] != strip[0]:
            strip.append(beyond[strip[-1]])
        for one in strip:
            del left[one]
        found.append((len(strip[0]), tuple(strip), True))
    return tuple(sorted(found, key=lambda strip: min(strip[1])))


def height(ball, slope):
    """p times y less q times x."""
    return slope[0] * Fraction(*ball[2]) - slope[1] * Fraction(*ball[1])


def lines_until(ball, slope, end):
    """(time, is_up) of all lines that a BALL comes to before a time, in order; in STRETCHES."""
    x, y = Fraction(*ball[1]), Fraction(*ball[2])
    found = [((side - x) / slope[0], False) for side in range(1, slope[0] + 2)]
    found += [((over - y) / slope[1], True) for over in range(1, slope[1] + 2)]
    return sorted([line for line in found if line[0] < end])


def gone(table, ball, slope):
    lines = [is_up for _, is_up in lines_until(ball, slope, 1)]
    assert len(lines) == sum(slope)
    return (gone_along(table, ball[0], lines),) + ball[1:]


def corners_ahead(ball, slope):
    """(time, i, j) of all whole points ahead that lie on the LINE of a BALL, up to one STRETCH, the first one ahead."""
    x, y = Fraction(*ball[1]), Fraction(*ball[2])
    found = []
    for i in range(1, slope[0] + 1):
        time = (i - x) / slope[0]
        j = y + time * slope[1]
        if j.denominator == 1:
            found.append((time, i, int(j)))
    return found


def met_corner(table, ball, slope):
    found = corners_ahead(ball, slope)
    if not found:
        return None
    time = found[0][0]
    lines = [is_up for there, is_up in lines_until(ball, slope, time)]
    label = gone_along(table, ball[0], lines + [False, True])
    return ((time.numerator, time.denominator), label)


def label_under(table, ball, slope):
    """The LABEL whose CORNER is the first one ahead that lies just below the LINE, less than one line of CORNERS away.

    It is gone to in its own way: beside the BALL until it has gone over the line to the side there.
    """
    p, q = slope
    x, y = Fraction(*ball[1]), Fraction(*ball[2])
    for i in range(1, p + 1):
        at = y + (i - x) * q / Fraction(p)
        j = at.numerator // at.denominator
        # On which line of CORNERS (i, j) lies, and where that of the BALL does.
        if 0 < height(ball, slope) - (p * j - q * i) < 1:
            lines = [is_up for time, is_up in lines_until(ball, slope, 2) if time <= (i - x) / p]
            return gone_along(table, ball[0], lines)
    raise AssertionError

"""Inner balls: balls that do not begin at a CORNER, and the ROWS in which they go."""

from math import gcd

from hownarrow.errors import NoShot
from hownarrow.forms import is_integer, is_label, is_tuple_of
from hownarrow.squares import label_of, number_of, sides_of, ups_of
from hownarrow.strips import row_of, strips_of


def is_part(thing):
    """Tell whether thing is a PART."""
    if not is_tuple_of(2, thing) or not is_integer(thing[0]) or not is_integer(thing[1]):
        return False
    return 0 < thing[0] < thing[1] and gcd(thing[0], thing[1]) == 1


def is_ball(table, thing):
    """Tell whether thing is a BALL of a TABLE."""
    return is_tuple_of(3, thing) and is_label(table, thing[0]) and is_part(thing[1]) and is_part(thing[2])


def height_of(ball, slope):
    """Return (top, bottom): p times y less q times x, not in lowest terms.

    A CORNER i to the side and j up from that of the LABEL has p * j - q * i; where this is less it
    lies below the LINE of the BALL, and all CORNERS that have the same lie on one line along the SLOPE.
    """
    p, q = slope
    _, (n, d), (m, e) = ball
    return (p * m * d - q * n * e, d * e)


def meets_corners(ball, slope):
    """Tell whether the LINE of a BALL MEETS CORNERS."""
    top, bottom = height_of(ball, slope)
    return top % bottom == 0


def check_free(ball, slope):
    """Raise NoShot if the LINE of a BALL MEETS CORNERS."""
    if meets_corners(ball, slope):
        raise NoShot()


def lines_ahead(ball, slope, many_sides, many_ups):
    """Return for the first so many lines to the side, and so many up, in order, whether each is one up."""
    p, q = slope
    _, (n, d), (m, e) = ball
    lines = []
    side = 1
    over = 1
    while side <= many_sides or over <= many_ups:
        # To the side a line lies at (side - x) / p of the way, up at (over - y) / q.
        if side > many_sides:
            is_up = True
        else:
            is_up = over <= many_ups and (over * e - m) * p * d < (side * d - n) * q * e
        lines.append(is_up)
        if is_up:
            over += 1
        else:
            side += 1
    return lines


def label_behind(table, label, lines):
    """Return the LABEL behind lines, for each of which it is told whether it is one up."""
    sides = sides_of(table)
    ups = ups_of(table)
    here = number_of(table, label)
    for is_up in lines:
        here = ups[here] if is_up else sides[here]
    return label_of(table, here)


def gone(table, ball, slope):
    """Return the BALL that is there when it has gone p to the side and q up."""
    check_free(ball, slope)
    label, x, y = ball
    return (label_behind(table, label, lines_ahead(ball, slope, slope[0], slope[1])), x, y)


def corner_ahead(ball, slope):
    """Return how far to the side and up the first CORNER ahead lies that is on a BALL's LINE, or just below it."""
    p, q = slope
    top, bottom = height_of(ball, slope)
    height = top // bottom
    aside = 1
    # Just one of p lines to the side has a CORNER of this height, as p and q share no divisor.
    while (height + q * aside) % p != 0:
        aside += 1
    return (aside, (height + q * aside) // p)


def row_under(table, ball, slope):
    """Return the ROW in which a BALL goes."""
    check_free(ball, slope)
    # As it goes over the CORNER it has crossed the line up there, and crosses that to the side.
    aside, over = corner_ahead(ball, slope)
    return row_of(table, label_behind(table, ball[0], lines_ahead(ball, slope, aside, over)), slope)


def strip_at(table, ball, slope):
    """Return the index of the STRIP that has the ROW in which a BALL goes."""
    row = row_under(table, ball, slope)
    return [at for at, strip in enumerate(strips_of(table, slope)) if row in strip[1]][0]


def round_of(table, ball, slope):
    """Return how often a BALL has to go p to the side and q up until it is as it was."""
    return len(row_under(table, ball, slope))


def met_corner(table, ball, slope):
    """Return (time, label) of the first CORNER that the LINE of a BALL meets, None if it meets none."""
    if not meets_corners(ball, slope):
        return None
    label, (n, d), _ = ball
    aside, over = corner_ahead(ball, slope)
    lines = lines_ahead(ball, slope, aside - 1, over - 1)
    # At the CORNER it goes as a STRETCH ends.
    behind = label_behind(table, label, lines + [False, True])
    top = aside * d - n
    bottom = slope[0] * d
    shared = gcd(top, bottom)
    return ((top // shared, bottom // shared), behind)

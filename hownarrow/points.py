"""Points: which are free, which are holes, and where a ball falls."""

from hownarrow.labels import from_sideways, from_up, labels_of, sideways, up, ways_of
from hownarrow.tables import corners_of, pocket_at, point_of, points_of


def is_kept(table, label):
    """Tell whether a LABEL is KEPT."""
    start = from_sideways(table, from_up(table, label))
    return sideways(table, up(table, start)) == label


def kept_labels(table):
    """Return the ascending tuple of the LABELS that are KEPT."""
    aside = ways_of(table, False)
    over = ways_of(table, True)
    kept = [over[aside[start]] for start in labels_of(table) if over[aside[start]] == aside[over[start]]]
    return tuple(sorted(kept))


def is_free(table, corner):
    """Tell whether the POINT of a CORNER is FREE."""
    labels = [(*one, mark) for one in point_of(table, corner) for mark in range(table[1])]
    return all([is_kept(table, label) for label in labels])


def holes_of(table):
    """Return the ascending tuple of the least CORNERS of all HOLES."""
    kept = {label: True for label in kept_labels(table)}
    moved = {label[:3]: True for label in labels_of(table) if label not in kept}
    return tuple([point[0] for point in points_of(table) if any([one in moved for one in point])])


def falls_at(table, corner):
    """Return the name under which a ball falls at the POINT of a CORNER, or None."""
    name = pocket_at(table, corner)
    if name is None and not is_free(table, corner):
        return ""
    return name


def falls_of(table):
    """Return the dict from the least CORNERS at which a ball falls to the names."""
    falls = {corner: "" for corner in holes_of(table)}
    for corner, name in table[5]:
        falls[corner] = name
    return {corner: falls[corner] for corner in corners_of(table) if corner in falls}


def quarters_many(table, corner):
    """Return how many CORNERS are one at the POINT of a CORNER."""
    return len(point_of(table, corner))

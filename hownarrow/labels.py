"""Labels: where a ball lies and goes to, and the next one over one edge."""

from hownarrow.tables import edge_ahead, permutation_of


def passage(table, cell, at, is_up):
    """Return what is passed over the edge ahead of a place in a CELL.

    at is the x of a LABEL, its y if is_up is True. It is a tuple of the
    PERMUTATION, and of the CELL and the place at which one is behind it.
    """
    row = table[3] if is_up else table[2]
    edge = edge_ahead(table, (cell, at, at), is_up)
    permutation = permutation_of(table, edge)
    if at == 0:
        other = row[cell]
    else:
        other = row.index(cell) if cell in row else None
    if other is None:
        return (permutation, cell, 1 - at)
    return (permutation, other, at)


def sideways(table, label):
    """Return the LABEL to which one comes by going SIDEWAYS."""
    cell, x, y, mark = label
    permutation, there, at = passage(table, cell, x, False)
    return (there, at, y, permutation[mark])


def up(table, label):
    """Return the LABEL to which one comes by going UP."""
    cell, x, y, mark = label
    permutation, there, at = passage(table, cell, y, True)
    return (there, x, at, permutation[mark])


def from_sideways(table, label):
    """Return the LABEL from which going SIDEWAYS leads to this one."""
    cell, x, y, mark = label
    # A ball that is turned about goes back over the very edge by which it came.
    permutation, there, at = passage(table, cell, 1 - x, False)
    return (there, 1 - at, y, permutation.index(mark))


def from_up(table, label):
    """Return the LABEL from which going UP leads to this one."""
    cell, x, y, mark = label
    permutation, there, at = passage(table, cell, 1 - y, True)
    return (there, x, 1 - at, permutation.index(mark))


def about(label):
    """Return the LABEL at the other end of this CELL, that goes the contrary way."""
    cell, x, y, mark = label
    return (cell, 1 - x, 1 - y, mark)


def labels_of(table):
    """Return the ascending tuple of all LABELS."""
    size, marks = table[:2]
    return tuple([
        (cell, x, y, mark)
        for cell in range(size)
        for x in (0, 1)
        for y in (0, 1)
        for mark in range(marks)
    ])


def ways_of(table, is_up):
    """Return the dict from each LABEL to that behind going SIDEWAYS, or UP if is_up is True."""
    ways = {}
    # A passage is the same for all marks and at both ends of the edge, so it is asked just once.
    for cell in range(table[0]):
        for at in (0, 1):
            permutation, there, behind = passage(table, cell, at, is_up)
            for beside in (0, 1):
                for mark, turned in enumerate(permutation):
                    if is_up:
                        ways[(cell, beside, at, mark)] = (there, beside, behind, turned)
                    else:
                        ways[(cell, at, beside, mark)] = (there, behind, beside, turned)
    return ways

"""Single balls, step by step."""

from hownarrow.labels import about, sideways, up
from hownarrow.squares import kinds_of, label_of, number_of, sides_of, ups_of
from hownarrow.tables import edge_ahead


def lines_crossed(slope):
    """Return for each line that a STRETCH crosses, in order, whether it is one up."""
    p, q = slope
    lines = []
    side = 1
    over = 1
    while side < p or over < q:
        # The line so many up lies at over / q of the way, that to the side at side / p.
        is_up = over * p < side * q
        lines.append(is_up)
        if is_up:
            over += 1
        else:
            side += 1
    return lines


def stretch(table, label, slope):
    """Return the tuple (events, label behind) of a STRETCH from a LABEL."""
    events = []
    here = label
    for is_up in lines_crossed(slope):
        edge = edge_ahead(table, here, is_up)
        here = up(table, here) if is_up else sideways(table, here)
        events.append((edge, here))
    return (tuple(events), up(table, sideways(table, here)))


def numbers_gone(table, label, slope, kinds):
    """Return the list of the NUMBERS of the SPOT and of the next LABELS of a SHOT."""
    sides = sides_of(table)
    ups = ups_of(table)
    steps = [ups if is_up else sides for is_up in lines_crossed(slope)]
    steps.extend([sides, ups])
    spot = number_of(table, label)
    gone = [spot]
    here = spot
    while True:
        for step in steps:
            here = step[here]
        gone.append(here)
        if kinds[here] is not None or here == spot:
            return gone


def shot(table, label, slope):
    """Return the OUTCOME of the SHOT from a SPOT."""
    kinds = kinds_of(table)
    gone = numbers_gone(table, label, slope, kinds)
    many = len(gone) - 1
    kind = kinds[gone[-1]]
    if kind is None:
        return ("round", many)
    name, mark = kind
    return ("falls", name, mark, many)


def track(table, label, slope):
    """Return the tuple of the SPOT and of the next LABELS of all STRETCHES."""
    gone = numbers_gone(table, label, slope, kinds_of(table))
    return tuple([label_of(table, number) for number in gone])


def contrary(table, label, slope):
    """Return the LABEL from which a ball of the same SLOPE comes back over the same EDGES."""
    events = stretch(table, label, slope)[0]
    return about(events[-1][1] if events else label)

"""Wishes: which OUTCOMES are asked for."""


def meets(wish, outcome):
    """Tell whether a WISH MEETS an OUTCOME."""
    names, marks, least, most, rounds = wish
    if not least <= outcome[-1] <= most:
        return False
    if outcome[0] == "round":
        return rounds
    return outcome[1] in names and outcome[2] in marks


def everything(table):
    """Return the WISH that MEETS all OUTCOMES of SHOTS on a TABLE."""
    size, marks = table[:2]
    names = [""] + [name for _, name in table[5]]
    return (tuple(sorted(set(names))), tuple(range(marks)), 1, 4 * size * marks, True)


def wish_for(outcomes):
    """Return the WISH with just what these OUTCOMES have, of which there is at least one."""
    fallen = [outcome for outcome in outcomes if outcome[0] == "falls"]
    names = [outcome[1] for outcome in fallen]
    marks = [outcome[2] for outcome in fallen]
    many = [outcome[-1] for outcome in outcomes]
    rounds = len(fallen) < len(outcomes)
    return (tuple(sorted(set(names))), tuple(sorted(set(marks))), min(many), max(many), rounds)


def in_both(one, other):
    """Return the tuple of the items of one that are in the other, too."""
    return tuple([item for item in one if item in other])


def both(one, other):
    """Return the WISH that MEETS just what two WISHES both meet, or None."""
    least = max(one[2], other[2])
    most = min(one[3], other[3])
    if least > most:
        return None
    return (in_both(one[0], other[0]), in_both(one[1], other[1]), least, most, one[4] and other[4])


def is_within(one, other):
    """Tell whether the second WISH MEETS each OUTCOME that the first one MEETS."""
    names, marks, least, most, rounds = one
    falls = names != () and marks != ()
    if not falls and not rounds:
        return True
    if falls and not (in_both(names, other[0]) == names and in_both(marks, other[1]) == marks):
        return False
    if rounds and not other[4]:
        return False
    return other[2] <= least and most <= other[3]

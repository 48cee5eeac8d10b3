"""Crossings: the lines that a SLOPE crosses as letters, and the ways of which they are made."""

from hownarrow.balls import lines_crossed


def crossings_of(slope):
    """Return the string of the lines that a SLOPE crosses: s to the side, u up."""
    return "".join(["u" if is_up else "s" for is_up in lines_crossed(slope)])


def way_of(word):
    """Return (ahead, behind): the ways along both NEIGHBOURS of a WORD."""
    ahead = "s"
    behind = "u"
    for letter in word:
        if letter == "l":
            behind = ahead + behind
        else:
            ahead = behind + ahead
    return (ahead, behind)


def straight(slope):
    """Return the crossings of a SLOPE and what is passed at the end of its STRETCH."""
    return crossings_of(slope) + "su"

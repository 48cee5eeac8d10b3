"""WORDS, PICTURES and graphs done once more by the words of DOC.md [2], to test the program against.

Nothing here is imported from the package.
"""

from tests import plain


def below(word):
    """The NEIGHBOURS of a WORD: those of it without its last letter, and their sum."""
    if word == "":
        return ((1, 0), (0, 1))
    first, second = below(word[:-1])
    both = (first[0] + second[0], first[1] + second[1])
    return (first, both) if word[-1] == "l" else (both, second)


def middle(word):
    """The SLOPE of a WORD."""
    first, second = below(word)
    return (first[0] + second[0], first[1] + second[1])


def words(letters):
    """All WORDS of at most so many letters, shorter ones first, then in order."""
    found = [""]
    level = [""]
    for _ in range(letters):
        level = [word + letter for word in level for letter in "lr"]
        found.extend(level)
    return found


def words_to(most):
    """The dict from each SLOPE with p + q at most most to its WORD."""
    found = {}
    waiting = [("", (1, 0), (0, 1))]
    while waiting:
        word, first, second = waiting.pop()
        both = (first[0] + second[0], first[1] + second[1])
        if sum(both) <= most:
            found[both] = word
            waiting.extend([(word + "l", first, both), (word + "r", both, second)])
    return found


def steeper(one, other):
    """Whether one END is steeper than the other one."""
    return other[1] * one[0] < one[1] * other[0]


def inside(within, slope):
    return steeper(slope, within[0]) and steeper(within[1], slope)


def relabelled(sides, ups, kinds, start):
    """The PICTURE of what can be come to from start, of two dicts and the dict of kinds."""
    met = [start]
    for one in met:
        for there in (sides[one], ups[one]):
            if there not in met:
                met.append(there)
    places = {one: at for at, one in enumerate(met)}
    return (tuple(places[sides[one]] for one in met), tuple(places[ups[one]] for one in met),
            tuple(kinds[one] for one in met))


def kinds(table):
    """The dict from each LABEL to its kind."""
    ends = plain.falls(table)
    called = {corner: one[0] for one in plain.points(table) for corner in one}
    found = {}
    for label in plain.all_labels(table):
        name = ends.get(called[label[:3]])
        found[label] = None if name is None else (name, label[3])
    return found


def both_ways(table, word):
    """The dicts (A, B) from LABELS to LABELS that stand behind a WORD [10]."""
    aside = {label: plain.go(table, label, False) for label in plain.all_labels(table)}
    over = {label: plain.go(table, label, True) for label in plain.all_labels(table)}
    for letter in word:
        if letter == "l":
            over = {label: over[aside[label]] for label in aside}
        else:
            aside = {label: aside[over[label]] for label in over}
    return aside, over


def picture(table, label, word):
    """The PICTURE behind a WORD."""
    aside, over = both_ways(table, word)
    return relabelled(aside, over, kinds(table), label)


def led(one, letter):
    """The PICTURE that a letter makes of one."""
    sides, ups, marks = one
    if letter == "l":
        ups = [ups[at] for at in sides]
    else:
        sides = [sides[at] for at in ups]
    return relabelled(sides, ups, marks, 0)


def outcome(one):
    """The OUTCOME of a PICTURE."""
    sides, ups, marks = one
    here, many = 0, 0
    while True:
        here, many = ups[sides[here]], many + 1
        if marks[here] is not None:
            return ("falls",) + marks[here] + (many,)
        if here == 0:
            return ("round", many)


def graph(table, label, most=None):
    """The GRAPH of a TABLE and a SPOT; None if it has more than most ROWS."""
    rows = [picture(table, label, "")]
    ways = []
    places = {rows[0]: 0}
    for one in rows:
        way = []
        for letter in "lr":
            other = led(one, letter)
            if other not in places:
                places[other] = len(rows)
                rows.append(other)
            way.append(places[other])
        ways.append(tuple(way))
        if most is not None and len(rows) > most:
            return None
    return tuple((one,) + way for one, way in zip(rows, ways))

"""WORDS, PICTURES, graphs and what is found in them, done once more to test the program against.

Nothing here is imported from the package.
"""

from fractions import Fraction

from tests import plain

ALL = ((1, 0), (0, 1))
# TABLES with about 4,000 PICTURES from the SPOT (0, 0, 0, 0): 3,996, 4,032, 4,320 and 4,032.
NEARLY = (5, 1, (None, 3, 1, None, 2), (None, None, None, 0, 2), (), (((0, 1, 0), "a"),))
BEYOND = (3, 2, (2, 1, None), (0, 2, None), ((("left", 0), (1, 0)),), ())
FAR_BEYOND = (4, 1, (0, None, 1, 2), (None, 2, 3, 0), (), ())
MANY_ENDS = (5, 2, (1, None, 0, None, 3), (0, 4, 2, 3, 1), ((("left", 2), (1, 0)),), (((3, 1, 0), "b"),))
# From (0, 0, 0, 0) some OUTCOMES come at first with a p + q of 195, and of 235.
LATE = (5, 1, (None, None, 0, 4, None), (None, None, 4, 3, 1), (), (((0, 0, 0), "b"),))
LATER = (5, 1, (2, 3, 4, None, None), (2, 0, 4, 1, 3), (), ())
# Here words go on for more than 4,000 times `lr` until the PICTURE behind "" comes again.
LONG_ROUND = (4, 1, (None, 3, 2, 0), (1, 3, 0, 2), (), ())


def below(word):
    """The NEIGHBOURS of a WORD: those of it without its last letter, and their sum."""
    if word == "":
        return ((1, 0), (0, 1))
    first, second = below(word[:-1])
    both = (first[0] + second[0], first[1] + second[1])
    return (first, both) if word[-1] == "l" else (both, second)


def middle(word):
    """The SLOPE of a WORD."""
    first, second = below(word)
    return (first[0] + second[0], first[1] + second[1])


def words(letters):
    """All WORDS of at most so many letters, shorter ones first, then in order."""
    found = [""]
    level = [""]
    for _ in range(letters):
        level = [word + letter for word in level for letter in "lr"]
        found.extend(level)
    return found


def words_to(most):
    """The dict from each SLOPE with p + q at most most to its WORD."""
    found = {}
    waiting = [("", (1, 0), (0, 1))]
    while waiting:
        word, first, second = waiting.pop()
        both = (first[0] + second[0], first[1] + second[1])
        if sum(both) <= most:
            found[both] = word
            waiting.extend([(word + "l", first, both), (word + "r", both, second)])
    return found


def steeper(one, other):
    """Whether one END is steeper than the other one."""
    return other[1] * one[0] < one[1] * other[0]


def inside(within, slope):
    return steeper(slope, within[0]) and steeper(within[1], slope)


def relabelled(sides, ups, kinds, start):
    """The PICTURE of what can be come to from start, of two dicts and the dict of kinds."""
    met = [start]
    for one in met:
        for there in (sides[one], ups[one]):
            if there not in met:
                met.append(there)
    places = {one: at for at, one in enumerate(met)}
    return (tuple(places[sides[one]] for one in met), tuple(places[ups[one]] for one in met),
            tuple(kinds[one] for one in met))


def kinds(table):
    """The dict from each LABEL to its kind."""
    ends = plain.falls(table)
    called = {corner: one[0] for one in plain.points(table) for corner in one}
    found = {}
    for label in plain.all_labels(table):
        name = ends.get(called[label[:3]])
        found[label] = None if name is None else (name, label[3])
    return found


def both_ways(table, word):
    """The dicts (A, B) from LABELS to LABELS that stand behind a WORD [10]."""
    aside = {label: plain.go(table, label, False) for label in plain.all_labels(table)}
    over = {label: plain.go(table, label, True) for label in plain.all_labels(table)}
    for letter in word:
        if letter == "l":
            over = {label: over[aside[label]] for label in aside}
        else:
            aside = {label: aside[over[label]] for label in over}
    return aside, over


def picture(table, label, word):
    """The PICTURE behind a WORD."""
    aside, over = both_ways(table, word)
    return relabelled(aside, over, kinds(table), label)


def led(one, letter):
    """The PICTURE that a letter makes of one."""
    sides, ups, marks = one
    if letter == "l":
        ups = [ups[at] for at in sides]
    else:
        sides = [sides[at] for at in ups]
    return relabelled(sides, ups, marks, 0)


def outcome(one):
    """The OUTCOME of a PICTURE."""
    sides, ups, marks = one
    here, many = 0, 0
    while True:
        here, many = ups[sides[here]], many + 1
        if marks[here] is not None:
            return ("falls",) + marks[here] + (many,)
        if here == 0:
            return ("round", many)


def graph(table, label, most=None):
    """The GRAPH of a TABLE and a SPOT; None if it has more than most ROWS."""
    rows = [picture(table, label, "")]
    ways = []
    places = {rows[0]: 0}
    for one in rows:
        way = []
        for letter in "lr":
            other = led(one, letter)
            if other not in places:
                places[other] = len(rows)
                rows.append(other)
            way.append(places[other])
        ways.append(tuple(way))
        if most is not None and len(rows) > most:
            return None
    return tuple((one,) + way for one, way in zip(rows, ways))


def meets(wish, told):
    """Whether a WISH MEETS an OUTCOME."""
    names, marks, least, most, rounds = wish
    if told[0] == "round":
        return rounds and least <= told[1] <= most
    return told[1] in names and told[2] in marks and least <= told[3] <= most


def ways(rows):
    """The list of the dicts from letters to indexes of a GRAPH."""
    return [{"l": left, "r": right} for _, left, right in rows]


def simplicity(slope):
    return (sum(slope), slope[0])


def steepness(slope):
    return Fraction(slope[1], slope[0])


def slopes_with_rows(rows, most):
    """The list of (SLOPE, index of its ROW) for all SLOPES with p + q at most most, SIMPLER ones first."""
    found = []
    led_to = ways(rows)
    waiting = [((1, 0), (0, 1), 0)]
    while waiting:
        first, second, at = waiting.pop()
        both = (first[0] + second[0], first[1] + second[1])
        if sum(both) <= most:
            found.append((both, at))
            waiting.append((first, both, led_to[at]["l"]))
            waiting.append((both, second, led_to[at]["r"]))
    return sorted(found, key=lambda item: simplicity(item[0]))


def slopes_in_with_rows(rows, within, start, word, most):
    """Likewise those beneath a WORD with this SLOPE that lie in a RANGE, start being the index behind the WORD."""
    found = []
    led_to = ways(rows)
    waiting = [(*below(word), start)]
    while waiting:
        first, second, at = waiting.pop()
        both = (first[0] + second[0], first[1] + second[1])
        if sum(both) > most or not steeper(second, within[0]) or not steeper(within[1], first):
            continue
        if inside(within, both):
            found.append((both, at))
        waiting.append((first, both, led_to[at]["l"]))
        waiting.append((both, second, led_to[at]["r"]))
    return sorted(found, key=lambda item: simplicity(item[0]))


def go_along(rows, start, word):
    """The index of the ROW to which the letters of a WORD lead."""
    led_to = ways(rows)
    for letter in word:
        start = led_to[start][letter]
    return start


def distances(rows, goals):
    """For each ROW how many letters lead from it to one of some indexes, at least, by going back from these."""
    back = [[] for _ in rows]
    for at, (_, left, right) in enumerate(rows):
        back[left].append(at)
        back[right].append(at)
    far = {goal: 0 for goal in goals}
    level = list(goals)
    while level:
        beyond = []
        for at in level:
            for before in back[at]:
                if before not in far:
                    far[before] = far[at] + 1
                    beyond.append(before)
        level = beyond
    return far


def least_way(rows, start, goals):
    """The shortest WORD, of several the least, that leads from a ROW to one of some indexes."""
    far = distances(rows, goals)
    word = ""
    while far[start] > 0:
        letter = "l" if far[rows[start][1]] < far[start] else "r"
        word += letter
        start = rows[start][1 if letter == "l" else 2]
    return word

"""Words: how each SLOPE is come to by letters, and the SLOPES on both sides of it."""

from hownarrow.slopes import added


def steps_to(slope):
    """Return the list of tuples (letter, many) that lead to a SLOPE of any size, one run after the other."""
    p, q = slope
    steps = []
    # What the letters have added is taken off, a whole run of them at once.
    while p != q:
        if p > q:
            many = (p - 1) // q
            steps.append(("l", many))
            p -= many * q
        else:
            many = (q - 1) // p
            steps.append(("r", many))
            q -= many * p
    return steps


def word_of(slope):
    """Return the WORD of a SLOPE."""
    return word_by(steps_to(slope))


def next_neighbours(neighbours, letter):
    """Return the NEIGHBOURS of a WORD with one letter more behind it."""
    first, second = neighbours
    if letter == "l":
        return (first, added(first, second))
    return (added(first, second), second)


def middle_of(neighbours):
    """Return the SLOPE of the WORD that has these NEIGHBOURS."""
    return added(neighbours[0], neighbours[1])


def neighbours_of(word):
    """Return the NEIGHBOURS of a WORD."""
    neighbours = ((1, 0), (0, 1))
    for letter in word:
        neighbours = next_neighbours(neighbours, letter)
    return neighbours


def slope_of(word):
    """Return the SLOPE of a WORD."""
    return middle_of(neighbours_of(word))


def range_of(word):
    """Return the RANGE in which the SLOPES of all WORDS that begin with this one lie."""
    return neighbours_of(word)


def runs_of(word):
    """Return the tuple of (letter, many): how often each letter stands side by side."""
    runs = []
    start = 0
    for end in range(1, len(word) + 1):
        if end == len(word) or word[end] != word[start]:
            runs.append((word[start], end - start))
            start = end
    return tuple(runs)


def word_by(runs):
    """Return the WORD of tuples (letter, many)."""
    return "".join([letter * many for letter, many in runs])


def exchanged(word):
    """Return a WORD with its two letters exchanged."""
    return "".join(["r" if letter == "l" else "l" for letter in word])

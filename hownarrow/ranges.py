"""Ranges: the SIMPLEST SLOPE in one, and the WORDS that lead into it."""

from hownarrow.words import middle_of, neighbours_of, next_neighbours, slope_of, word_of


def words_of_ends(within):
    """Return the WORDS of both ENDS of a RANGE, None for (1, 0) and for (0, 1)."""
    return tuple([None if 0 in end else word_of(end) for end in within])


def run_from(word, start, letter):
    """Return how often a letter stands in a WORD side by side from an index on."""
    end = start
    while end < len(word) and word[end] == letter:
        end += 1
    return end - start


def just_inside(word, start, letter):
    """Return the first WORD on the way to an END that has passed to its inner side.

    The way is along the END's WORD; from the index start on, letter is the one
    that leads away from the other END.
    """
    many = run_from(word, start, letter)
    if start + many == len(word):
        # The END itself does not lie in the RANGE.
        many += 1
    return word[:start] + letter * many


def simplest_word(within):
    """Return the WORD of the SIMPLEST SLOPE that lies in a RANGE."""
    low, high = words_of_ends(within)
    if low is None and high is None:
        return ""
    if low is None:
        return just_inside(high, 0, "l")
    if high is None:
        return just_inside(low, 0, "r")
    shared = 0
    while shared < min(len(low), len(high)) and low[shared] == high[shared]:
        shared += 1
    if shared == len(low):
        return just_inside(high, shared + 1, "l")
    if shared == len(high):
        return just_inside(low, shared + 1, "r")
    return low[:shared]


def simplest_in(within):
    """Return the SIMPLEST SLOPE that lies in a RANGE."""
    return slope_of(simplest_word(within))


def is_beneath(word, end, letter):
    """Tell whether the WORD of an END begins with this one and a letter."""
    return end is not None and end.startswith(word + letter)


def node_in(within):
    """Return the shortest WORD, of several the least, whose RANGE lies in this one."""
    low, high = words_of_ends(within)
    word = simplest_word(within)
    # An END that is not beneath the simplest SLOPE is the NEIGHBOUR on its side.
    below = 1 + run_from(low, len(word) + 1, "r") if is_beneath(word, low, "l") else 0
    above = 1 + run_from(high, len(word) + 1, "l") if is_beneath(word, high, "r") else 0
    if below == 0 and above == 0:
        return word
    if below <= above:
        return word + "l" + "r" * below
    return word + "r" + "l" * above


def cover_towards(word, end, away, back):
    """Return the items of the cover between the SLOPE of a WORD and an END, the nearest first.

    away is the letter that leads from the WORD towards the END, back the other one.
    """
    if not is_beneath(word, end, away):
        return [word + away]
    items = []
    neighbours = neighbours_of(word + away)
    for at in range(len(word) + 1, len(end)):
        if end[at] == away:
            items.append(end[:at] + back)
            items.append(middle_of(neighbours))
        neighbours = next_neighbours(neighbours, end[at])
    items.append(end + back)
    return items


def cover_of(within):
    """Return the fewest WORDS and SLOPES that tell just the SLOPES in a RANGE."""
    low, high = words_of_ends(within)
    word = simplest_word(within)
    if not is_beneath(word, low, "l") and not is_beneath(word, high, "r"):
        return (word,)
    below = cover_towards(word, low, "l", "r")
    above = cover_towards(word, high, "r", "l")
    return tuple(below[::-1] + [slope_of(word)] + above)

"""Pictures: what stands behind a WORD, and the OUTCOME that is read off it."""

from hownarrow.squares import kinds_of, number_of, often, one_then, sides_of, ups_of
from hownarrow.words import runs_of, steps_to


def numbered_from(start, sides, ups, kinds):
    """Return the PICTURE of those integers that can be come to from start, which is 0 in it."""
    places = [None] * len(sides)
    places[start] = 0
    met = [start]
    done = 0
    # Once all are met nothing new can come, so the rest of the ways is not gone.
    while done < len(met) < len(sides):
        at = met[done]
        aside = sides[at]
        if places[aside] is None:
            places[aside] = len(met)
            met.append(aside)
        over = ups[at]
        if places[over] is None:
            places[over] = len(met)
            met.append(over)
        done += 1
    return (
        tuple([places[sides[at]] for at in met]),
        tuple([places[ups[at]] for at in met]),
        tuple([kinds[at] for at in met]),
    )


def numbered(sides, ups, kinds):
    """Return the PICTURE of those integers that can be come to from 0."""
    return numbered_from(0, sides, ups, kinds)


def first_picture(table, label):
    """Return the PICTURE of a TABLE and a SPOT behind the WORD of no letters."""
    return numbered_from(number_of(table, label), sides_of(table), ups_of(table), kinds_of(table))


def both_led(sides, ups, letter):
    """Return the two PERMUTATIONS that a letter makes of two."""
    if letter == "l":
        return (sides, one_then(sides, ups))
    return (one_then(ups, sides), ups)


def led(picture, letter):
    """Return the PICTURE behind one letter more."""
    sides, ups, kinds = picture
    aside, over = both_led(sides, ups, letter)
    return numbered(aside, over, kinds)


def both_behind(sides, ups, steps):
    """Return the two PERMUTATIONS that letters make of two; steps are tuples (letter, many)."""
    for letter, many in steps:
        if letter == "l":
            ups = one_then(sides if many == 1 else often(sides, many), ups)
        else:
            sides = one_then(ups if many == 1 else often(ups, many), sides)
    return (sides, ups)


def led_by(picture, steps):
    """Return the PICTURE behind all letters of steps more."""
    sides, ups, kinds = picture
    # How integers are called in between does not matter, so they are numbered just once.
    aside, over = both_behind(sides, ups, steps)
    return numbered(aside, over, kinds)


def led_along(picture, word):
    """Return the PICTURE behind all letters of a WORD more."""
    return led_by(picture, runs_of(word))


def picture_at(table, label, word):
    """Return the PICTURE of a TABLE and a SPOT behind a WORD."""
    return led_along(first_picture(table, label), word)


def picture_of(table, label, slope):
    """Return the PICTURE of a TABLE and a SPOT behind the WORD of a SLOPE."""
    return led_by(first_picture(table, label), steps_to(slope))


def outcome_of(picture):
    """Return the OUTCOME of a PICTURE."""
    sides, ups, kinds = picture
    here = ups[sides[0]]
    many = 1
    while here != 0 and kinds[here] is None:
        here = ups[sides[here]]
        many += 1
    if kinds[here] is None:
        return ("round", many)
    name, mark = kinds[here]
    return ("falls", name, mark, many)


def outcome_at(table, label, slope):
    """Return the OUTCOME of the PICTURE behind the WORD of a SLOPE."""
    return outcome_of(picture_of(table, label, slope))

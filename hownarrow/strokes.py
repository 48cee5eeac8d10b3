"""Strokes: their texts, what they can GAIN by ALL SLOPES, and which one is best."""

from hownarrow.errors import NoShot, Wrong
from hownarrow.forms import is_integer, is_slope_to, is_table, is_tuple_of
from hownarrow.games import FAR, are_spots, gain_of, is_seat, mark_behind
from hownarrow.settled import outcomes_of
from hownarrow.slopes import plainness
from hownarrow.tabletexts import number_shown


def show_stroke(stroke):
    """Return the text of a STROKE."""
    seat, slope = stroke
    return " ".join([str(number) for number in seat + slope])


def read_stroke(table, spots, text):
    """Return the STROKE that a text shows."""
    if not is_table(table):
        raise Wrong(0)
    if not are_spots(table, spots):
        raise Wrong(1)
    if not isinstance(text, str):
        raise Wrong(2)
    most = max(FAR, table[0])
    numbers = tuple([number_shown(word, most) for word in text.split(" ")])
    seat = numbers[:3]
    slope = numbers[3:]
    if not is_seat(table, spots, seat) or not is_slope_to(FAR, slope):
        raise NoShot()
    return (seat, slope)


def ease_of(stroke):
    """Return what is less for the one of two STROKES with the simpler SLOPE, or with this and the lesser SEAT."""
    seat, slope = stroke
    return (plainness(slope), seat)


def gains_of(table, spots, worths, mark):
    """Return the dict from each (gain, next mark) to the simplest STROKE that has it while the dial shows mark."""
    found = {}
    for seat in spots:
        outcomes = outcomes_of(table, (*seat, mark))
        for outcome, slope in outcomes.items():
            key = (gain_of(worths, outcome), mark_behind(mark, outcome))
            stroke = (seat, slope)
            if key not in found or ease_of(stroke) < ease_of(found[key]):
                found[key] = stroke
    return {key: found[key] for key in sorted(list(found))}


class Choices:
    """What STROKES can GAIN while the dial shows each mark, as far as it was asked, and the values of that."""

    def __init__(self, table, spots, worths):
        self.asked = (table, spots, worths)
        self.gains = {}
        self.values_met = {}

    def gains_at(self, mark):
        """Return what gains_of tells."""
        if mark not in self.gains:
            table, spots, worths = self.asked
            self.gains[mark] = gains_of(table, spots, worths, mark)
        return self.gains[mark]

    def best_at(self, mark, many):
        """Return the value at a mark with many STROKES to come, many at most forty."""
        if many == 0:
            return 0
        if (mark, many) not in self.values_met:
            choices = list(self.gains_at(mark))
            worth = max([gain - self.best_at(after, many - 1) for gain, after in choices])
            self.values_met[(mark, many)] = worth
        return self.values_met[(mark, many)]


def value_of(table, spots, worths, mark, many):
    """Return by how much more than the other one the next player can be sure to GAIN in many STROKES."""
    return Choices(table, spots, worths).best_at(mark, many)


def best_stroke(table, spots, worths, mark, many):
    """Return the simplest STROKE by which the next player is sure to GAIN so much more."""
    choices = Choices(table, spots, worths)
    best = choices.best_at(mark, many)
    strokes = [
        stroke
        for (gain, after), stroke in choices.gains_at(mark).items()
        if gain - choices.best_at(after, many - 1) == best
    ]
    return min(strokes, key=ease_of)


def is_key(thing):
    """Tell whether thing is a tuple of two integers."""
    return is_tuple_of(2, thing) and is_integer(thing[0]) and is_integer(thing[1])


def are_values(table, spots, worths, most, thing):
    """Tell whether thing is VALUES of all marks, with up to most STROKES to come."""
    choices = Choices(table, spots, worths)
    marks = range(table[1])
    for mark in marks:
        choices.gains_at(mark)
    if not isinstance(thing, dict) or len(thing) != table[1] * (most + 1):
        return False
    if not all([is_key(key) and is_integer(worth) for key, worth in thing.items()]):
        return False
    for many in range(most + 1):
        for mark in marks:
            if thing.get((mark, many)) != choices.best_at(mark, many):
                return False
    return True

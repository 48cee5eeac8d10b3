"""Games: two players strike in turn, and STROKES may be told late or taken out."""

from hownarrow.errors import Nothing, Wrong
from hownarrow.forms import ascends, is_corner, is_from, is_integer, is_name_or_empty, is_slope_to, is_table
from hownarrow.pictures import outcome_at

# The numbers of a SLOPE that is struck, and worths, go so far.
FAR = 4000
DEAR = 1000


def are_spots(table, thing):
    """Tell whether thing is an ascending tuple of at least one SEAT of a TABLE."""
    if not isinstance(thing, tuple) or thing == ():
        return False
    return all([is_corner(table, seat) for seat in thing]) and ascends(thing)


def is_seat(table, spots, thing):
    """Tell whether thing is one of spots."""
    return is_corner(table, thing) and thing in spots


def is_worth(thing):
    """Tell whether thing is what a name can be worth."""
    return is_integer(thing) and -DEAR <= thing <= DEAR


def are_worths(thing):
    """Tell whether thing is a dict from names to what they are worth."""
    if not isinstance(thing, dict):
        return False
    return all([is_name_or_empty(name) and is_worth(worth) for name, worth in thing.items()])


def gain_of(worths, outcome):
    """Return what a STROKE with an OUTCOME GAINS."""
    return worths.get(outcome[1], 0) if outcome[0] == "falls" else 0


def mark_behind(mark, outcome):
    """Return what the dial shows behind a STROKE with an OUTCOME, if it showed mark ahead of it."""
    return outcome[2] if outcome[0] == "falls" else mark


class Game:
    """A game of two players on a TABLE."""

    def __init__(self, table, spots, worths):
        if not is_table(table):
            raise Wrong(0)
        if not are_spots(table, spots):
            raise Wrong(1)
        if not are_worths(worths):
            raise Wrong(2)
        self.made_of = (table, spots, {name: worths[name] for name in sorted(list(worths))})
        # Two tuples, of STROKES and of their OUTCOMES; and those that were there ahead of each change.
        self.played = ((), ())
        self.before = []

    def __eq__(self, other):
        """Tell whether other is a Game on the same TABLE, from the same SEATS, with the same worths and STROKES."""
        return isinstance(other, Game) and self.made_of == other.made_of and self.played == other.played

    def table(self):
        """Return the TABLE."""
        return self.made_of[0]

    def spots(self):
        """Return the SEATS from which balls are struck."""
        return self.made_of[1]

    def worths(self):
        """Return what names are worth."""
        worths = self.made_of[2]
        return {name: worths[name] for name in worths}

    def strokes(self):
        """Return the tuple of all STROKES."""
        return self.played[0]

    def outcomes(self):
        """Return the tuple of their OUTCOMES."""
        return self.played[1]

    def scores(self):
        """Return the tuple of what both players have GAINED."""
        gains = [gain_of(self.made_of[2], outcome) for outcome in self.played[1]]
        return (sum(gains[::2]), sum(gains[1::2]))

    def dial(self):
        """Return the mark that is shown."""
        mark = 0
        for outcome in self.played[1]:
            mark = mark_behind(mark, outcome)
        return mark

    def turn(self):
        """Return the player who strikes next."""
        return len(self.played[0]) % 2

    def strike(self, seat, slope):
        """Do a STROKE behind the others, and return its OUTCOME."""
        self.check_stroke(0, seat, slope)
        strokes, outcomes = self.played
        self.play(strokes + ((seat, slope),), outcomes)
        return self.played[1][-1]

    def told(self, at, seat, slope):
        """Put in a STROKE that was told late."""
        if not is_from(0, at):
            raise Wrong(0)
        self.check_stroke(1, seat, slope)
        strokes, outcomes = self.played
        if at > len(strokes):
            raise Nothing()
        self.play(strokes[:at] + ((seat, slope),) + strokes[at:], outcomes[:at])

    def struck(self, at):
        """Take out the STROKE with an index."""
        if not is_from(0, at):
            raise Wrong(0)
        strokes, outcomes = self.played
        if at >= len(strokes):
            raise Nothing()
        self.play(strokes[:at] + strokes[at + 1:], outcomes[:at])

    def undo(self):
        """Take back what was last done."""
        if not self.before:
            raise Nothing()
        self.played = self.before.pop()

    def twin(self):
        """Return an independent Game in the same state."""
        table, spots, worths = self.made_of
        other = Game(table, spots, worths)
        other.played = self.played
        other.before = list(self.before)
        return other

    def check_stroke(self, place, seat, slope):
        """Raise Wrong if seat, the argument at this place, is not as described, or slope, the next one."""
        table, spots, _ = self.made_of
        if not is_seat(table, spots, seat):
            raise Wrong(place)
        if not is_slope_to(FAR, slope):
            raise Wrong(place + 1)

    def play(self, strokes, outcomes):
        """Put these STROKES, of the first of which the OUTCOMES are known, in the place of those that are there."""
        told = list(outcomes)
        mark = 0
        for outcome in told:
            mark = mark_behind(mark, outcome)
        for seat, slope in strokes[len(outcomes):]:
            outcome = outcome_at(self.made_of[0], (*seat, mark), slope)
            mark = mark_behind(mark, outcome)
            told.append(outcome)
        self.before.append(self.played)
        self.played = (strokes, tuple(told))

"""Kept tables: a TABLE, a SPOT and WISHES that are changed, and what holds of them then."""

from hownarrow.errors import Nothing, Wrong
from hownarrow.forms import is_label, is_name, is_slope_to, is_table, is_wish
from hownarrow.games import FAR
from hownarrow.graphs import graph_of
from hownarrow.pictures import outcome_at
from hownarrow.settled import ALL, simplest_with, which_meet

FIRST = (0, 0, 0, 0)


class Kept:
    """A TABLE with a SPOT, and WISHES under NAMES."""

    def __init__(self, table, label):
        if not is_table(table):
            raise Wrong(0)
        if not is_label(table, label):
            raise Wrong(1)
        # The TABLE, the SPOT and the dict of WISHES, which is never changed, but put anew; and what
        # was there ahead of each CHANGE that has changed something.
        self.now = (table, label, {})
        self.before = []

    def __eq__(self, other):
        """Tell whether other is a Kept with the same TABLE, SPOT and WISHES."""
        return isinstance(other, Kept) and self.now == other.now

    def change(self, table, label, wishes):
        """Put these in the place of what is kept, and return whether this changes something."""
        state = (table, label, wishes)
        if state == self.now:
            return False
        self.before.append(self.now)
        self.now = state
        return True

    def put_table(self, table):
        """Put a TABLE in the place of the one that is kept, and return whether this changes something."""
        if not is_table(table):
            raise Wrong(0)
        _, label, wishes = self.now
        return self.change(table, label if is_label(table, label) else FIRST, wishes)

    def put_spot(self, label):
        """Put the SPOT, and return whether this changes something."""
        table, _, wishes = self.now
        if not is_label(table, label):
            raise Wrong(0)
        return self.change(table, label, wishes)

    def put_wish(self, name, wish):
        """Put a WISH under a NAME, and return whether this changes something."""
        if not is_name(name):
            raise Wrong(0)
        if not is_wish(wish):
            raise Wrong(1)
        table, label, _ = self.now
        wishes = self.wishes()
        wishes[name] = wish
        return self.change(table, label, wishes)

    def take_wish(self, name):
        """Take away the WISH under a NAME, and return whether there was one."""
        if not is_name(name):
            raise Wrong(0)
        table, label, wishes = self.now
        return self.change(table, label, {other: wishes[other] for other in wishes if other != name})

    def table(self):
        """Return the TABLE."""
        return self.now[0]

    def spot(self):
        """Return the SPOT."""
        return self.now[1]

    def wishes(self):
        """Return the dict from NAMES to WISHES."""
        wishes = self.now[2]
        return {name: wishes[name] for name in sorted(list(wishes))}

    def outcome(self, slope):
        """Return the OUTCOME of the SHOT from the SPOT."""
        if not is_slope_to(FAR, slope):
            raise Wrong(0)
        return outcome_at(self.now[0], self.now[1], slope)

    def rows_many(self):
        """Return how many rows the GRAPH has."""
        return len(graph_of(self.now[0], self.now[1]))

    def stayed(self):
        """Return how many PICTURES were also in the GRAPH ahead of the last CHANGE that holds."""
        if not self.before:
            return 0
        there = {row[0]: True for row in graph_of(self.now[0], self.now[1])}
        table, label, _ = self.before[-1]
        return len([row for row in graph_of(table, label) if row[0] in there])

    def kept(self):
        """Return the dict from the NAMES of all WISHES to whether they MEET all SHOTS."""
        wishes = self.wishes()
        if not wishes:
            return {}
        graph = graph_of(self.now[0], self.now[1])
        return {name: all(which_meet(graph, wishes[name])) for name in wishes}

    def broken(self):
        """Return the dict from the NAMES of WISHES that are broken to the simplest SLOPE that breaks each."""
        wishes = self.wishes()
        if not wishes:
            return {}
        graph = graph_of(self.now[0], self.now[1])
        slopes = {}
        for name in wishes:
            are_broken = [not is_met for is_met in which_meet(graph, wishes[name])]
            if any(are_broken):
                slopes[name] = simplest_with(graph, are_broken, ALL)
        return slopes

    def undo(self):
        """Take back the last CHANGE that has changed something."""
        if not self.before:
            raise Nothing()
        self.now = self.before.pop()

    def twin(self):
        """Return an independent Kept in the same state."""
        other = Kept(self.now[0], self.now[1])
        other.now = self.now
        other.before = list(self.before)
        return other

"""Settled: what becomes of the SHOTS of ALL SLOPES, and the simplest SLOPE with which something comes."""

from heapq import heappop, heappush

from hownarrow.graphs import graph_of, row_at
from hownarrow.pictures import both_led, first_picture, outcome_of
from hownarrow.ranges import simplest_word
from hownarrow.slopes import less_steep, lies_in, plainness
from hownarrow.wishes import meets
from hownarrow.words import middle_of, neighbours_of, next_neighbours

ALL = ((1, 0), (0, 1))


def entry(neighbours, behind):
    """Return the item of a queue for a WORD with these NEIGHBOURS, SIMPLER SLOPES being less.

    behind is what stands behind the WORD; as no two SLOPES are as simple, it is never compared.
    """
    return (plainness(middle_of(neighbours)), neighbours, behind)


def touches(within, neighbours):
    """Tell whether some SLOPE between two NEIGHBOURS lies in a RANGE."""
    return less_steep(within[0], neighbours[1]) and less_steep(neighbours[0], within[1])


def is_inside(within, neighbours):
    """Tell whether all SLOPES between two NEIGHBOURS lie in a RANGE."""
    return not less_steep(neighbours[0], within[0]) and not less_steep(within[1], neighbours[1])


def is_beaten(front, sizes):
    """Tell whether both NEIGHBOURS are as simple, or simpler, at one of those that were here before."""
    first, second = sizes
    return any([one <= first and other <= second for one, other in front])


def simplest_by(graph, goals, within):
    """Return the dict from each goal to the SIMPLEST SLOPE in a RANGE that has it.

    goals has for each ROW what a SLOPE whose WORD leads to it has, or None.
    """
    wanted = len(set([goal for goal in goals if goal is not None]))
    found = {}
    fronts = [[] for _ in graph]
    word = simplest_word(within)
    queue = [entry(neighbours_of(word), row_at(graph, word))]
    while len(found) < wanted:
        _, neighbours, row = heappop(queue)
        sizes = (plainness(neighbours[0]), plainness(neighbours[1]))
        # Each SLOPE further on is a sum of both NEIGHBOURS, so what was here before has a SIMPLER one.
        if is_beaten(fronts[row], sizes):
            continue
        if is_inside(within, neighbours):
            fronts[row].append(sizes)
        slope = middle_of(neighbours)
        if goals[row] is not None and goals[row] not in found and lies_in(within, slope):
            found[goals[row]] = slope
        for letter, there in (("l", graph[row][1]), ("r", graph[row][2])):
            beyond = next_neighbours(neighbours, letter)
            if touches(within, beyond):
                heappush(queue, entry(beyond, there))
    return found


def simplest_with(graph, are_wanted, within):
    """Return the SIMPLEST SLOPE in a RANGE whose WORD leads to a ROW that is wanted, or None."""
    goals = [True if is_wanted else None for is_wanted in are_wanted]
    return simplest_by(graph, goals, within).get(True)


def outcomes_in(graph):
    """Return the list of the OUTCOMES of all ROWS."""
    return [outcome_of(row[0]) for row in graph]


def which_meet(graph, wish):
    """Return the list that tells of each ROW whether a WISH MEETS its OUTCOME."""
    return [meets(wish, outcome) for outcome in outcomes_in(graph)]


def outcomes_within(graph, within):
    """Return the dict from each OUTCOME to the SIMPLEST SLOPE in a RANGE that has it."""
    found = simplest_by(graph, outcomes_in(graph), within)
    return {outcome: found[outcome] for outcome in sorted(list(found))}


def outcomes_of(table, label):
    """Return the dict from each OUTCOME of SHOTS from a SPOT to the simplest SLOPE that has it."""
    return outcomes_within(graph_of(table, label), ALL)


def is_kept(table, label, wish):
    """Tell whether a WISH MEETS all SHOTS from a SPOT."""
    return all(which_meet(graph_of(table, label), wish))


def simplest_broken(table, label, wish):
    """Return the simplest SLOPE whose SHOT a WISH does not MEET, or None."""
    graph = graph_of(table, label)
    return simplest_with(graph, [not is_met for is_met in which_meet(graph, wish)], ALL)


def simplest_met(table, label, wish):
    """Return the simplest SLOPE whose SHOT a WISH MEETS, or None."""
    graph = graph_of(table, label)
    return simplest_with(graph, which_meet(graph, wish), ALL)


def first_met(table, label, wish, most):
    """Return the simplest SLOPE with p + q at most most whose SHOT a WISH MEETS, or None."""
    sides, ups, kinds = first_picture(table, label)
    queue = [entry(ALL, (sides, ups))]
    while queue:
        _, neighbours, ways = heappop(queue)
        aside, over = ways
        # 0 is still the SPOT, however the others are called.
        if meets(wish, outcome_of((aside, over, kinds))):
            return middle_of(neighbours)
        for letter in ("l", "r"):
            beyond = next_neighbours(neighbours, letter)
            if sum(middle_of(beyond)) <= most:
                heappush(queue, entry(beyond, both_led(aside, over, letter)))
    return None

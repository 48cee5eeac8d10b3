"""However narrow: what comes in a RANGE, and the nearest SLOPES to an END with which it comes."""

from hownarrow.graphs import graph_of, row_at, shortest_way
from hownarrow.ranges import node_in
from hownarrow.settled import ALL, outcomes_within, simplest_with, which_meet
from hownarrow.slopes import less_steep, mirrored
from hownarrow.words import middle_of, next_neighbours


def simplest_shot(table, label, wish, within):
    """Return the SIMPLEST SLOPE in a RANGE whose SHOT a WISH MEETS, or None."""
    graph = graph_of(table, label)
    return simplest_with(graph, which_meet(graph, wish), within)


def simplest_shots(table, label, within):
    """Return the dict from each OUTCOME of SHOTS from a SPOT to the SIMPLEST SLOPE in a RANGE that has it."""
    return outcomes_within(graph_of(table, label), within)


def word_within(table, label, wish, within):
    """Return the first of the shortest WORDS that begin as all of a RANGE do, and whose SHOT a WISH MEETS."""
    graph = graph_of(table, label)
    node = node_in(within)
    way = shortest_way(graph, row_at(graph, node), which_meet(graph, wish))
    return None if way is None else node + way


def steepest_below(ways, are_met, end, most):
    """Return the steepest SLOPE that is LESS STEEP than an END, with p + q at most most, and is met, or None.

    ways has for each ROW the two that l and r lead to; are_met tells of each ROW whether it is met.
    """
    waiting = []
    here = (ALL, 0)
    # From the steepest SLOPE on: what lies above one, then it itself, then what lies below it.
    while True:
        neighbours, row = here
        if sum(middle_of(neighbours)) <= most and less_steep(neighbours[0], end):
            waiting.append(here)
            here = (next_neighbours(neighbours, "r"), ways[row][1])
            continue
        if not waiting:
            return None
        neighbours, row = waiting.pop()
        slope = middle_of(neighbours)
        if are_met[row] and less_steep(slope, end):
            return slope
        here = (next_neighbours(neighbours, "l"), ways[row][0])


def nearest_below(table, label, wish, end, most):
    """Return the steepest SLOPE below an END, with p + q at most most, whose SHOT a WISH MEETS, or None."""
    graph = graph_of(table, label)
    ways = [(left, right) for _, left, right in graph]
    return steepest_below(ways, which_meet(graph, wish), end, most)


def nearest_above(table, label, wish, end, most):
    """Return the least steep SLOPE above an END, with p + q at most most, whose SHOT a WISH MEETS, or None."""
    graph = graph_of(table, label)
    # Mirrored, steeper SLOPES are less steep ones, and letters are exchanged.
    ways = [(right, left) for _, left, right in graph]
    found = steepest_below(ways, which_meet(graph, wish), mirrored(end), most)
    return None if found is None else mirrored(found)

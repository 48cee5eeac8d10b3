"""Counts: how many WORDS, rows and SLOPES have each OUTCOME."""

from math import gcd

from hownarrow.graphs import graph_of
from hownarrow.settled import outcomes_in
from hownarrow.squares import turned_back


def ascending(told):
    """Return a dict with ascending keys, without those that have 0."""
    return {key: told[key] for key in sorted(list(told)) if told[key] != 0}


def by_outcome(outcomes, many):
    """Return the dict from OUTCOMES to the sums of what their rows have."""
    told = {}
    for outcome, one in zip(outcomes, many):
        told[outcome] = told.get(outcome, 0) + one
    return ascending(told)


def counts_by_depth(table, label, most):
    """Return for each number of letters up to most the dict from OUTCOMES to how many WORDS have them."""
    graph = graph_of(table, label)
    outcomes = outcomes_in(graph)
    # Just one row leads to each one by l, and one by r, so their ways are all that lead there.
    by_left = turned_back([row[1] for row in graph])
    by_right = turned_back([row[2] for row in graph])
    ways = [0] * len(graph)
    ways[0] = 1
    counts = [by_outcome(outcomes, ways)]
    for _ in range(most):
        ways = [ways[left] + ways[right] for left, right in zip(by_left, by_right)]
        counts.append(by_outcome(outcomes, ways))
    return counts


def shares(table, label):
    """Return the dict from OUTCOMES to the part of all rows that has them, in lowest terms."""
    graph = graph_of(table, label)
    told = by_outcome(outcomes_in(graph), [1] * len(graph))
    parts = {}
    for outcome, many in told.items():
        shared = gcd(many, len(graph))
        parts[outcome] = (many // shared, len(graph) // shared)
    return parts


def visits_to(graph, most):
    """Return for each row to how many SLOPES with p + q at most most it belongs."""
    visits = [0] * len(graph)
    # Of two NEIGHBOURS only their sums of p and q matter.
    waiting = [(1, 1, 0)] if most >= 2 else []
    while waiting:
        first, second, row = waiting.pop()
        both = first + second
        while both <= most:
            visits[row] += 1
            if both + second <= most:
                waiting.append((both, second, graph[row][2]))
            row = graph[row][1]
            second = both
            both += first
    return visits


def counts_to(table, label, most):
    """Return the dict from OUTCOMES to how many SLOPES with p + q at most most have them."""
    graph = graph_of(table, label)
    return by_outcome(outcomes_in(graph), visits_to(graph, most))

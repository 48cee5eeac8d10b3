"""Graphs: all PICTURES of a TABLE and a SPOT, and how letters lead from one to the other."""

from hownarrow.growing import Growing
from hownarrow.pictures import first_picture

MOST = 4000


def graph_of(table, label):
    """Return the GRAPH of a TABLE and a SPOT."""
    growing = Growing(first_picture(table, label), MOST)
    ways = []
    # PICTURES get their indexes as they are met, so just in the order of the ROWS.
    while len(ways) < len(growing.pictures):
        here = len(ways)
        ways.append((growing.led_to(here, "l"), growing.led_to(here, "r")))
    return tuple([(picture, left, right) for picture, (left, right) in zip(growing.pictures, ways)])


def row_behind(graph, index, word):
    """Return the index of the ROW to which the letters of a WORD lead from that with an index."""
    for letter in word:
        index = graph[index][1 if letter == "l" else 2]
    return index


def row_at(graph, word):
    """Return the index of the ROW to which the letters of a WORD lead from the first one."""
    return row_behind(graph, 0, word)


def shortest_way(graph, start, goals):
    """Return the shortest WORD, of several the least, from a ROW to one of those that are goals.

    goals tells of each ROW whether it is one; where none is, None is returned.
    """
    before = {start: None}
    met = [start]
    # In the order in which ROWS are met, the words that led to them are shorter, or as short and less.
    for index in range(len(graph)):
        here = met[index]
        if goals[here]:
            return word_back(before, here)
        for letter, there in (("l", graph[here][1]), ("r", graph[here][2])):
            if there not in before:
                before[there] = (here, letter)
                met.append(there)
    return None


def word_back(before, index):
    """Return the WORD by which a ROW was met; before tells of each ROW from where, and by which letter."""
    letters = []
    while before[index] is not None:
        index, letter = before[index]
        letters.append(letter)
    return "".join(letters[::-1])


def way_between(graph, start, end):
    """Return the shortest WORD, of several the least, from one ROW to another one."""
    return shortest_way(graph, start, [index == end for index in range(len(graph))])


def word_to(graph, index):
    """Return the shortest WORD, of several the least, from the first ROW to that with an index."""
    return way_between(graph, 0, index)


def way_back(graph, index):
    """Return the shortest WORD, of several the least, from the ROW with an index to the first one."""
    return way_between(graph, index, 0)

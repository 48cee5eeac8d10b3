"""Papers: what settles a promise about all SHOTS, and can be judged row by row."""

from hownarrow.forms import are_numbered, has_twice, is_below, is_picture, is_tuple_of
from hownarrow.graphs import graph_of
from hownarrow.pictures import first_picture, led, outcome_of
from hownarrow.wishes import meets


def is_row(many, thing):
    """Tell whether thing is a tuple of a PICTURE and of two indexes of many ROWS."""
    if not is_tuple_of(3, thing):
        return False
    return is_picture(thing[0]) and is_below(many, thing[1]) and is_below(many, thing[2])


def are_led(rows):
    """Tell whether each ROW tells the two ROWS of the PICTURES that are led from its own."""
    for picture, left, right in rows:
        if led(picture, "l") != rows[left][0] or led(picture, "r") != rows[right][0]:
            return False
    return True


def is_graph(table, label, thing):
    """Tell whether thing is the GRAPH of a TABLE and a SPOT."""
    if not isinstance(thing, tuple) or thing == ():
        return False
    if not all([is_row(len(thing), row) for row in thing]):
        return False
    if thing[0][0] != first_picture(table, label) or has_twice([row[0] for row in thing]):
        return False
    return are_numbered([row[1] for row in thing], [row[2] for row in thing]) and are_led(thing)


def is_paper(table, label, wish, thing):
    """Tell whether thing is a PAPER of a TABLE, a SPOT and a WISH."""
    if not isinstance(thing, tuple) or not all([is_picture(picture) for picture in thing]):
        return False
    among = {picture: True for picture in thing}
    if len(among) < len(thing) or first_picture(table, label) not in among:
        return False
    for picture in thing:
        if not meets(wish, outcome_of(picture)):
            return False
        if led(picture, "l") not in among or led(picture, "r") not in among:
            return False
    return True


def paper_for(table, label, wish):
    """Return the tuple of all PICTURES if it is a PAPER, else None."""
    pictures = tuple([row[0] for row in graph_of(table, label)])
    if all([meets(wish, outcome_of(picture)) for picture in pictures]):
        return pictures
    return None

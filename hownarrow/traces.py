"""Traces: a soon-made proof that there are more PICTURES than some bound."""

from hownarrow.squares import one_then, turned_back

# Any way would do; one that mixes both letters well tells more PICTURES apart.
WAY = "suussuuusssususuusuususssuuussusuussuuus"


def led_round(one, at):
    """Return the list of those to which a PERMUTATION leads from at, up to at again."""
    members = [at]
    while one[members[-1]] != at:
        members.append(one[members[-1]])
    return members


def colours_of(picture):
    """Return for each integer of a PICTURE a number: unlike ones for those that are surely unlike.

    The way round a POINT, A back, B back, A, B, is the same behind each WORD [10]; so what is met
    along it, and whether this is 0, is told alike by equal PICTURES, however they were come to.
    """
    sides, ups, kinds = picture
    turns = one_then(turned_back(one_then(sides, ups)), one_then(ups, sides))
    numbers = {}
    colours = []
    for at in range(len(sides)):
        told = tuple([(kinds[one], one == 0) for one in led_round(turns, at)])
        colours.append(numbers.setdefault(told, len(numbers)))
    return colours


def trace_of(couple, colours, way):
    """Return the tuple of the colours that are met from 0 on along a way of letters."""
    sides, ups = couple
    here = 0
    met = []
    for letter in way:
        here = sides[here] if letter == "s" else ups[here]
        met.append(colours[here])
    return tuple(met)


def are_surely_more(picture, most):
    """Tell whether traces show that a PICTURE and all that letters lead to from it are more than most.

    Unlike traces are of unlike PICTURES; unlike PICTURES may have the same trace, so False tells nothing.
    """
    colours = colours_of(picture)
    # Of few integers much is told soon.
    way = WAY[:2 * len(colours)]
    waiting = [picture[:2]]
    met = {trace_of(waiting[0], colours, way): True}
    done = 0
    while done < len(waiting):
        sides, ups = waiting[done]
        for couple in ((sides, one_then(sides, ups)), (one_then(ups, sides), ups)):
            trace = trace_of(couple, colours, way)
            if trace not in met:
                if len(met) == most:
                    return True
                met[trace] = True
                waiting.append(couple)
        done += 1
    return False

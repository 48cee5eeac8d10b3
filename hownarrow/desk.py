"""The desk: a kept TABLE that is asked and changed by lines of text."""

from hownarrow.errors import NoCommand, NoText, Nothing, TooMany, Wrong
from hownarrow.forms import is_label, is_name, is_range, is_slope_to, is_wish
from hownarrow.games import FAR
from hownarrow.kept import FIRST, Kept
from hownarrow.narrow import simplest_shot
from hownarrow.settled import outcomes_of
from hownarrow.tabletexts import number_shown, read_table, show_table

START = (1, 1, (None,), (None,), (), ())
# The greatest integer with nine digits.
GREATEST = 999999999
ANSWERS = {"yes": True, "no": False}

# Each of the functions that do a COMMAND takes the Kept and the words behind the first one; where
# these are not as described, it returns None, and has changed nothing.


def numbers_told(words):
    """Return the tuple of the integers that words tell, None for each one that tells none."""
    return tuple([number_shown(word, GREATEST) for word in words])


def shown(numbers):
    """Return the text of integers with one blank between them."""
    return " ".join([str(number) for number in numbers])


def outcome_shown(outcome):
    """Return the text of an OUTCOME."""
    if outcome[0] == "round":
        return f"round {outcome[1]}"
    _, name, mark, many = outcome
    called = "-" if name == "" else name
    return f"falls {called} {mark} {many}"


def names_told(word):
    """Return the tuple of the names that a word tells; they are not judged."""
    if word == ".":
        return ()
    return tuple(["" if name == "-" else name for name in word.split(",")])


def marks_told(word):
    """Return the tuple of the marks that a word tells, None for what tells none."""
    return () if word == "." else numbers_told(word.split(","))


def wish_told(words):
    """Return the WISH that five words tell, or None."""
    names, marks, least, most, rounds = words
    if rounds not in ANSWERS or "" in names.split(","):
        return None
    bounds = numbers_told([least, most])
    wish = (names_told(names), marks_told(marks), bounds[0], bounds[1], ANSWERS[rounds])
    return wish if is_wish(wish) else None


def do_spot(kept, words):
    """Put the SPOT."""
    label = numbers_told(words)
    if not is_label(kept.table(), label):
        return None
    kept.put_spot(label)
    return ["done"]


def do_wish(kept, words):
    """Put a WISH."""
    if len(words) != 6 or not is_name(words[0]):
        return None
    wish = wish_told(words[1:])
    if wish is None:
        return None
    kept.put_wish(words[0], wish)
    return ["done"]


def do_nowish(kept, words):
    """Take a WISH away."""
    if len(words) != 1 or not is_name(words[0]):
        return None
    return ["done"] if kept.take_wish(words[0]) else ["nothing"]


def do_undo(kept, words):
    """Take back the last CHANGE."""
    if words:
        return None
    try:
        kept.undo()
    except Nothing:
        return ["nothing"]
    return ["done"]


def do_show(kept, words):
    """Tell the lines of the TABLE."""
    return None if words else show_table(kept.table()).split("\n")


def do_where(kept, words):
    """Tell the SPOT."""
    return None if words else [shown(kept.spot())]


def do_shoot(kept, words):
    """Tell the OUTCOME of a SHOT."""
    slope = numbers_told(words)
    return [outcome_shown(kept.outcome(slope))] if is_slope_to(FAR, slope) else None


def do_rows(kept, words):
    """Tell how many rows the GRAPH has."""
    return None if words else [str(kept.rows_many())]


def do_outcomes(kept, words):
    """Tell each OUTCOME with the simplest SLOPE that has it."""
    if words:
        return None
    told = outcomes_of(kept.table(), kept.spot())
    return [f"{outcome_shown(outcome)} by {shown(slope)}" for outcome, slope in told.items()]


def do_wishes(kept, words):
    """Tell of each WISH whether it is kept, or by which SLOPE it is broken."""
    if words:
        return None
    broken = kept.broken()
    return [
        f"{name} broken by {shown(broken[name])}" if name in broken else f"{name} kept"
        for name in kept.wishes()
    ]


def do_narrow(kept, words):
    """Tell the simplest SLOPE in a RANGE whose SHOT a WISH MEETS."""
    numbers = numbers_told(words[1:])
    within = (numbers[:2], numbers[2:])
    if not words or words[0] not in kept.wishes() or not is_range(within) or max(numbers) > FAR:
        return None
    slope = simplest_shot(kept.table(), kept.spot(), kept.wishes()[words[0]], within)
    return ["none"] if slope is None else [shown(slope)]


COMMANDS = {
    "spot": do_spot,
    "wish": do_wish,
    "nowish": do_nowish,
    "undo": do_undo,
    "show": do_show,
    "where": do_where,
    "shoot": do_shoot,
    "rows": do_rows,
    "outcomes": do_outcomes,
    "wishes": do_wishes,
    "narrow": do_narrow,
}


def do_table(kept, text):
    """Put the TABLE that a text shows."""
    try:
        table = read_table(text)
    except NoText:
        return None
    kept.put_table(table)
    return ["done"]


def done(kept, line):
    """Do the COMMAND that a line tells, and return the answer, None if it is none."""
    if line.startswith("table\n"):
        return do_table(kept, line[len("table\n"):])
    words = line.split(" ")
    if words[0] not in COMMANDS:
        return None
    action = COMMANDS[words[0]]
    return action(kept, words[1:])


class Desk:
    """A Kept that is led by lines of text."""

    def __init__(self):
        self.held = Kept(START, FIRST)

    def __eq__(self, other):
        """Tell whether other is a Desk with the same TABLE, SPOT and WISHES."""
        return isinstance(other, Desk) and self.held == other.held

    def execute(self, line):
        """Do one COMMAND, and return the list of the strings that answer it."""
        if not isinstance(line, str):
            raise Wrong(0)
        try:
            answer = done(self.held, line)
        except TooMany:
            return ["too many"]
        if answer is None:
            raise NoCommand(line)
        return answer

    def table(self):
        """Return the TABLE."""
        return self.held.table()

    def spot(self):
        """Return the SPOT."""
        return self.held.spot()

    def wishes(self):
        """Return the dict from NAMES to WISHES."""
        return self.held.wishes()

    def twin(self):
        """Return an independent Desk in the same state."""
        other = Desk()
        other.held = self.held.twin()
        return other

"""Growing: the PICTURES to which letters lead, each made when it is asked for, and none twice."""

from hownarrow.errors import TooMany
from hownarrow.pictures import led
from hownarrow.traces import are_surely_more

# Asked for fewer PICTURES it would take longer than it spares.
ASKED_AT = 200
# Where (A, B) stands, "l" makes (A, A THEN B) of it, "r" (B THEN A, B); "L" and "R" undo them. Worked
# out, "lRl" and "RlR" make the same of it: (B undone, B undone THEN A THEN B). So from each PICTURE
# six steps come round, and where five are known they tell the sixth: these are the ways to go instead.
INSTEAD = {"l": ("RlRLr", "rLRlR", "rlRlr"), "r": ("LrLRl", "lRLrL", "lrLrl")}
BACK = {"l": "L", "r": "R"}


class Growing:
    """A PICTURE and those to which letters lead from it, as far as they were asked for, at most so many."""

    def __init__(self, picture, most):
        self.most = most
        self.pictures = [picture]
        self.places = {picture: 0}
        # For each letter, done or undone, where it leads from each PICTURE, as far as this is known.
        self.steps = {"l": [None], "r": [None], "L": [None], "R": [None]}

    def led_to(self, place, letter):
        """Return the index of the PICTURE to which a letter leads from that with an index."""
        there = self.steps[letter][place]
        if there is None:
            there = self.told_instead(place, letter)
            if there is None:
                there = self.place_of(led(self.pictures[place], letter))
            self.steps[letter][place] = there
            self.steps[BACK[letter]][there] = place
        return there

    def told_instead(self, place, letter):
        """Return the index to which a letter leads if other steps that are known tell it, else None."""
        for way in INSTEAD[letter]:
            here = place
            for step in way:
                here = self.steps[step][here]
                if here is None:
                    break
            if here is not None:
                return here
        return None

    def place_of(self, picture):
        """Return the index of a PICTURE, perhaps a new one."""
        many = len(self.pictures)
        place = self.places.setdefault(picture, many)
        if place == many:
            self.check_one_more()
            self.pictures.append(picture)
            for letter in "lrLR":
                self.steps[letter].append(None)
        return place

    def check_one_more(self):
        """Raise TooMany if there are more PICTURES than most, or if it is seen now that there will be."""
        many = len(self.pictures)
        if many == self.most or (many == ASKED_AT and are_surely_more(self.pictures[0], self.most)):
            raise TooMany(self.most)

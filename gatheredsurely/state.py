"""What the calls of one list act on, and the numbers of their refusals."""

NO_PLACE = -2
NOTHING_TOLD = -6
NOT_BEGUN = -11
NOT_ALLOWED = -22
TOO_MANY = -28
NOT_THERE = -33


class World:
    """A ring, and how its robots see, what they do and how they move; a ring of no places is not begun."""

    def __init__(self):
        self.ring = ()
        self.eyes = 0
        self.rule = {}
        self.mode = 0


def is_begun(world):
    return len(world.ring) > 0

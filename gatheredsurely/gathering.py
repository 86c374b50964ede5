"""Whether rings gather surely, and in how many moves at the most."""

from gatheredsurely.moves import eager_robots, next_names, steps_by_place
from gatheredsurely.rings import all_at_one_place, names_like


def at_rest_together(ring, eyes, rule):
    return all_at_one_place(ring) and eager_robots(ring, steps_by_place(ring, eyes, rule)) == 0


def following_by_name(ring, eyes, rule, mode):
    """All names of as many robots, in order, each with the names that may come next of it, in order."""
    following = {}
    for name in names_like(ring):
        following[name] = next_names(name, eyes, rule, mode)
    return following


def rests_together(name, following):
    return all_at_one_place(name) and len(following[name]) == 0


def moves_if_known(name, following, longest):
    """How many moves a name takes at the most, or None while one that may follow is not known to gather."""
    if len(following[name]) == 0:
        return 0 if rests_together(name, following) else None
    if not all([after in longest for after in following[name]]):
        return None
    return 1 + max([longest[after] for after in following[name]])


def longest_by_name(following):
    """Of the names that these are told of, those that gather surely, with how many moves each takes at the most."""
    longest = {}
    grown = True
    # A name on a round, or one that may come to a round, is never known: the loop ends without it.
    while grown:
        grown = False
        for name in following:
            most = moves_if_known(name, following, longest)
            if name not in longest and most is not None:
                longest[name] = most
                grown = True
    return longest

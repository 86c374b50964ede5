"""Whether rings gather surely, and in how many moves at the most."""

from gatheredsurely.moves import eager_robots, next_names, steps_by_place
from gatheredsurely.rings import all_at_one_place, names_like


def at_rest_together(ring, eyes, rule):
    return all_at_one_place(ring) and eager_robots(ring, steps_by_place(ring, eyes, rule)) == 0


def moves_if_known(name, following, longest):
    """How many moves a name takes at the most, or None while one that may follow is not known to gather."""
    if len(following) == 0:
        return 0 if all_at_one_place(name) else None
    if not all([after in longest for after in following]):
        return None
    return 1 + max([longest[after] for after in following])


def longest_by_name(ring, eyes, rule, mode):
    """Of all names of as many robots, those that gather surely, with how many moves each takes at the most."""
    following = {}
    for name in names_like(ring):
        following[name] = next_names(name, eyes, rule, mode)
    longest = {}
    grown = True
    # A name on a round, or one that may come to a round, is never known: the loop ends without it.
    while grown:
        grown = False
        for name in following:
            most = moves_if_known(name, following[name], longest)
            if name not in longest and most is not None:
                longest[name] = most
                grown = True
    return longest

"""What a robot sees of a ring, and where the rule lets it go."""

from gatheredsurely.rings import mirrored, turned

# For each kind of eyes, above what number robots at one place are no longer told apart (None: never).
MOST_SEEN = (None, 2, 1)


def seen_ring(ring, eyes):
    most = MOST_SEEN[eyes]
    if most is None:
        return ring
    return tuple([min(here, most) for here in ring])


def view_of(ring, eyes, place):
    seen = seen_ring(ring, eyes)
    return min(turned(seen, place), mirrored(seen, place))


def lesser_steps(ring, eyes, place):
    """The steps towards the side of the lesser row: both, if one way looks like the other."""
    seen = seen_ring(ring, eyes)
    onward = turned(seen, place)
    backward = mirrored(seen, place)
    if onward == backward:
        return [1, -1]
    return [1] if onward < backward else [-1]


def is_even_handed(ring, eyes, place):
    return len(lesser_steps(ring, eyes, place)) == 2


def eager_steps(ring, eyes, rule, place):
    """The steps that a robot at this place may take: none, if it is not eager."""
    done = rule.get(view_of(ring, eyes, place), 0)
    if done == 0:
        return []
    steps = lesser_steps(ring, eyes, place)
    return steps if done == 1 else [-step for step in steps]

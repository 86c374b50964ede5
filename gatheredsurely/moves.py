"""Which names may come next of a ring."""

from gatheredsurely.rings import name_of
from gatheredsurely.views import eager_steps

ONE_GOES = 0
SOME_GO = 1


def steps_by_place(ring, eyes, rule):
    """For each place, the steps that each robot there may take: none, where nobody is eager."""
    return [eager_steps(ring, eyes, rule, place) if robots > 0 else [] for place, robots in enumerate(ring)]


def eager_robots(ring, steps):
    return sum([robots for place, robots in enumerate(ring) if len(steps[place]) > 0])


def stepped(ring, place, step):
    counts = list(ring)
    counts[place] -= 1
    counts[(place + step) % len(ring)] += 1
    return tuple(counts)


def with_one_more(plays, place, steps_here):
    """The plays as they are, and each with one more robot gone from this place."""
    more = list(plays)
    for gone, ring in plays:
        more.extend([(gone + 1, stepped(ring, place, step)) for step in steps_here])
    return more


def all_plays(ring, steps):
    """Whatever the eager robots can make of the ring, whoever of them goes: how many have gone, and the ring then."""
    plays = [(0, ring)]
    # The ring and the steps stay those from before the move, since all look before any goes.
    for place, robots in enumerate(ring):
        # Robots at one place are chosen singly: some may stay there, and the even-handed may part.
        for robot in range(robots):
            plays = sorted(set(with_one_more(plays, place, steps[place])))
    return plays


def may_go(gone, eager, mode):
    if mode == ONE_GOES:
        return gone == 1
    if mode == SOME_GO:
        return gone >= 1
    return gone >= 1 and gone == eager


def next_names(ring, eyes, rule, mode):
    """The names that may come next, in order: none, if nobody is eager."""
    steps = steps_by_place(ring, eyes, rule)
    eager = eager_robots(ring, steps)
    return sorted(set([name_of(after) for gone, after in all_plays(ring, steps) if may_go(gone, eager, mode)]))

"""Rings as tuples: how many robots are at each place. Their turnings, their mirrorings, their names."""


def turned(ring, place):
    return ring[place:] + ring[:place]


def mirrored(ring, place):
    places = len(ring)
    return tuple([ring[(place - step) % places] for step in range(places)])


def name_of(ring):
    turnings = [turned(ring, place) for place in range(len(ring))]
    mirrorings = [mirrored(ring, place) for place in range(len(ring))]
    return min(turnings + mirrorings)


def all_rings(places, robots):
    begun = [()]
    for place in range(places):
        longer = []
        for ring in begun:
            # What is left is all that may stand here, so no ring grows that holds too many.
            left = robots - sum(ring)
            longer.extend([ring + (here,) for here in range(left + 1)])
        begun = longer
    return [ring for ring in begun if sum(ring) == robots]


def names_like(ring):
    """All names of as many robots, on as many places, in order."""
    return sorted(set([name_of(other) for other in all_rings(len(ring), sum(ring))]))


def rank_of(ring):
    return names_like(ring).index(name_of(ring))


def all_at_one_place(ring):
    # A ring without robots counts, too: its fullest place holds all none of them.
    return max(ring) == sum(ring)


def all_apart(ring):
    return max(ring) <= 1


def is_own_turning(ring):
    """Whether some turning but by 0 leaves the ring as it is."""
    return any([turned(ring, place) == ring for place in range(1, len(ring))])


def leaves_a_place(places, place):
    """Whether mirroring at this place leaves some place where it is."""
    return any([(place - here) % places == here for here in range(places)])


def is_own_mirror_between(ring):
    """Whether some mirroring that leaves no place where it is leaves the ring as it is."""
    places = len(ring)
    between = [place for place in range(places) if not leaves_a_place(places, place)]
    return any([mirrored(ring, place) == ring for place in between])

"""Rules for the tests, and the lines that tell them."""

import model


def rules_of(places, robots, eyes):
    """All rules of all views of so many robots, as lists of pairs of a view and what's done."""
    views = {}
    for ring in model.names(places, robots):
        for place, count in enumerate(ring):
            if count:
                even = model.even(ring, eyes, place)
                views[model.lesser(ring, eyes, place)] = (ring, place, range(2 if even else 3))
    rules = [[]]
    for view, (ring, place, choices) in views.items():
        rules = [[*rule, (ring, place, done)] for rule in rules for done in choices]
    return rules


def line_of(rule, places, robots, eyes, mode):
    names = model.names(places, robots)
    line = [("begin", places, eyes), ("put", 0, robots), ("at", mode)]
    at = None
    for ring, place, done in rule:
        if done:
            if ring != at:
                line.append(("jump", names.index(ring)))
                at = ring
            line.append(("tell", place, done))
    return line


def nearer(ring, eyes, place):
    """What brings a robot at this place nearer to where the most are; to stay, if that's here or at two places."""
    most = [other for other, count in enumerate(ring) if count == max(ring)]

    def way(start):
        return min((start - most[0]) % len(ring), (most[0] - start) % len(ring))

    if len(most) == 1:
        for done in (1, 2):
            goals = model.goals(ring, eyes, {model.lesser(ring, eyes, place): done}, place)
            if all(way(goal) < way(place) for goal in goals):
                return done
    return 0


def random_rule(chance, places, robots, eyes):
    """A rule that fits in a line, mostly to come nearer; first told of are the rings with most robots at one place."""
    rule = []
    told = set()
    for ring in sorted(model.names(places, robots)[1:], key=max, reverse=True)[:9]:
        for place, count in enumerate(ring):
            view = model.lesser(ring, eyes, place)
            if count and view not in told and len(rule) < 16:
                told.add(view)
                choices = range(2 if model.even(ring, eyes, place) else 3)
                done = nearer(ring, eyes, place) if chance.random() < 0.9 else chance.choice(choices)
                rule.append((ring, place, done))
    return rule


def views_of(ring):
    return {model.lesser(ring, 0, place): place for place, count in enumerate(ring) if count}


def told_of_four(count):
    """Calls that tell, on 7 places with four robots, of so many views, each to go by the lesser row.

    They end on a ring with a robot whose view isn't told of. Also that robot's place, and the number of the name, and
    the place there, that is told of first.
    """
    line = []
    told = set()
    # The names with the most views first, so that the line stays short.
    names = model.names(7, 4)
    order = sorted(range(len(names)), key=lambda rank: -len(views_of(names[rank])))
    first = None
    for rank in order:
        line.append(("jump", rank))
        for view, place in views_of(names[rank]).items():
            if view in told:
                continue
            if len(told) == count:
                return line, place, first
            first = first or (rank, place)
            told.add(view)
            line.append(("tell", place, 1))
    raise ValueError("there are not so many views")


def full_rule():
    """A line on 7 places that tells of 24 views; else as of told_of_four."""
    line, place, first = told_of_four(24)
    return [("begin", 7, 0), ("put", 0, 4), *line], place, first

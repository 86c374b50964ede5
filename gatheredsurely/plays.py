"""What whoever chooses makes of a name: the soonest rest, if they help; the worst, if they are against the robots."""

from gatheredsurely.gathering import rests_together


def not_met(names, following, met):
    """The names that may come next of these and were not met before; now they are."""
    found = []
    for name in names:
        for after in following[name]:
            if after not in met:
                met[after] = True
                found.append(after)
    return found


def fewest_moves(name, following):
    """In how few moves a name may come to rest together, or None if by no choice it does."""
    met = {name: True}
    names = [name]
    moves = 0
    while len(names) > 0:
        if any([rests_together(one, following) for one in names]):
            return moves
        names = not_met(names, following, met)
        moves += 1
    return None


def first_unsure(names, longest):
    """The first of the names that does not gather surely, or None if they all do."""
    for name in names:
        if name not in longest:
            return name
    return None


def worst_of(names, longest):
    """Of names in order, the first that does not gather surely; if they all do, the first that takes the most moves."""
    unsure = first_unsure(names, longest)
    if unsure is not None:
        return unsure
    most = max([longest[name] for name in names])
    return [name for name in names if longest[name] == most][0]


def bad_play(name, following, longest):
    """From a name that does not gather surely, the names of a play in which it never does."""
    play = [name]
    after = first_unsure(following[name], longest)
    # There is none only where nobody is eager: what can only come to names that gather surely does so itself.
    while after is not None and after not in play:
        play.append(after)
        after = first_unsure(following[after], longest)
    return play if after is None else play + [after]

"""The calls that only ask, of the ring as it is."""

from gatheredsurely.gathering import at_rest_together, following_by_name, longest_by_name
from gatheredsurely.plays import bad_play, fewest_moves, worst_of
from gatheredsurely.rings import all_at_one_place, is_own_mirror_between, is_own_turning, name_of, names_like, rank_of
from gatheredsurely.state import NOT_THERE, NOTHING_TOLD


def following_of(world):
    return following_by_name(world.ring, world.eyes, world.rule, world.mode)


def longest_of_ring(world):
    """In how many moves at the most the ring gathers surely, or None if it does not."""
    return longest_by_name(following_of(world)).get(name_of(world.ring))


def ask_ring(world):
    return [len(world.ring)] + list(world.ring)


def ask_rank(world):
    return [rank_of(world.ring)]


def ask_done(world):
    return [1 if at_rest_together(world.ring, world.eyes, world.rule) else 0]


def ask_sure(world):
    return [0 if longest_of_ring(world) is None else 1]


def ask_longest(world):
    most = longest_of_ring(world)
    return [NOT_THERE if most is None else most]


def ask_soonest(world):
    fewest = fewest_moves(name_of(world.ring), following_of(world))
    return [NOT_THERE if fewest is None else fewest]


def ask_bad(world):
    following = following_of(world)
    longest = longest_by_name(following)
    name = name_of(world.ring)
    if name in longest:
        return [NOTHING_TOLD]
    names = names_like(world.ring)
    play = bad_play(name, following, longest)
    return [len(play)] + [names.index(one) for one in play]


def ask_worst(world):
    following = following_of(world)
    after = following[name_of(world.ring)]
    if len(after) == 0:
        return [NOT_THERE]
    return [rank_of(worst_of(after, longest_by_name(following)))]


def ask_hopeless(world):
    alike = is_own_turning(world.ring) or is_own_mirror_between(world.ring)
    return [1 if sum(world.ring) > 0 and alike else 0]


def ask_told(world):
    together = 1 if all_at_one_place(world.ring) else 0
    return [len(world.ring), world.eyes, world.mode, sum(world.ring), together]


QUESTIONS = {
    7: ask_ring,
    8: ask_rank,
    9: ask_done,
    10: ask_sure,
    11: ask_longest,
    14: ask_soonest,
    15: ask_bad,
    16: ask_worst,
    21: ask_hopeless,
    22: ask_told,
}


def is_question(call):
    return call in QUESTIONS


def answer_question(world, call):
    return QUESTIONS[call](world)

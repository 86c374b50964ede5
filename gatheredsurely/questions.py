"""The calls that only ask."""

from gatheredsurely.gathering import at_rest_together, longest_by_name
from gatheredsurely.rings import name_of, rank_of
from gatheredsurely.state import NOT_THERE


def longest_of_ring(world):
    """In how many moves at the most the ring gathers surely, or None if it does not."""
    longest = longest_by_name(world.ring, world.eyes, world.rule, world.mode)
    return longest.get(name_of(world.ring))


def ask_ring(world):
    return [len(world.ring)] + list(world.ring)


def ask_rank(world):
    return [rank_of(world.ring)]


def ask_done(world):
    return [1 if at_rest_together(world.ring, world.eyes, world.rule) else 0]


def ask_sure(world):
    return [0 if longest_of_ring(world) is None else 1]


def ask_longest(world):
    most = longest_of_ring(world)
    return [NOT_THERE if most is None else most]


QUESTIONS = {7: ask_ring, 8: ask_rank, 9: ask_done, 10: ask_sure, 11: ask_longest}


def is_question(call):
    return call in QUESTIONS


def answer_question(world, call):
    return QUESTIONS[call](world)

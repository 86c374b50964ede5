"""Why a call is refused, where several calls are refused alike: the refusal's number, or None if there is none due."""

from gatheredsurely.state import NO_PLACE, NOT_ALLOWED, NOT_THERE
from gatheredsurely.views import is_even_handed

LAST_DONE = 2
LAST_MODE = 2


def refusal_of_place(world, place):
    """Why there is no view from this place."""
    if place >= len(world.ring):
        return NO_PLACE
    if world.ring[place] == 0:
        return NOT_THERE
    return None


def can_be_done(world, place, done):
    if done == LAST_DONE:
        # Who is even-handed has no other side to go by.
        return not is_even_handed(world.ring, world.eyes, place)
    return done < LAST_DONE


def refusal_of_done(world, place, done):
    """Why this can't be done by who has the view from this place."""
    refusal = refusal_of_place(world, place)
    if refusal is not None:
        return refusal
    return None if can_be_done(world, place, done) else NOT_ALLOWED


def refusal_of_mode(mode):
    return NOT_ALLOWED if mode > LAST_MODE else None

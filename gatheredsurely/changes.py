"""The calls that change the world. Each checks all its refusals, in their order, before it changes anything."""

from gatheredsurely.refusals import refusal_of_done, refusal_of_mode, refusal_of_place
from gatheredsurely.rings import name_of, names_like
from gatheredsurely.state import NO_PLACE, NOT_ALLOWED, NOT_THERE, NOTHING_TOLD, TOO_MANY
from gatheredsurely.views import view_of

LEAST_PLACES = 3
MOST_PLACES = 7
MOST_ROBOTS = 4
MOST_VIEWS = 24
LAST_EYES = 2


def begin_ring(world, places, eyes):
    if places < LEAST_PLACES or places > MOST_PLACES or eyes > LAST_EYES:
        return [NOT_ALLOWED]
    world.ring = (0,) * places
    world.eyes = eyes
    world.rule = {}
    world.mode = 0
    return [0]


def put_robots(world, place, robots):
    if place >= len(world.ring):
        return [NO_PLACE]
    if robots > MOST_ROBOTS:
        return [NOT_ALLOWED]
    were = world.ring[place]
    if sum(world.ring) - were + robots > MOST_ROBOTS:
        return [TOO_MANY]
    world.ring = world.ring[:place] + (robots,) + world.ring[place + 1:]
    return [were]


def change_eyes(world, eyes):
    if eyes > LAST_EYES:
        return [NOT_ALLOWED]
    were = world.eyes
    world.eyes = eyes
    world.rule = {}
    return [were]


def tell_view(world, place, done):
    refusal = refusal_of_done(world, place, done)
    if refusal is not None:
        return [refusal]
    view = view_of(world.ring, world.eyes, place)
    if view not in world.rule and len(world.rule) >= MOST_VIEWS:
        return [TOO_MANY]
    was = world.rule.get(view, 0)
    world.rule[view] = done
    return [was]


def untell_view(world, place):
    refusal = refusal_of_place(world, place)
    if refusal is not None:
        return [refusal]
    view = view_of(world.ring, world.eyes, place)
    if view not in world.rule:
        return [NOTHING_TOLD]
    world.rule.pop(view)
    return [len(world.rule)]


def change_mode(world, mode):
    refusal = refusal_of_mode(mode)
    if refusal is not None:
        return [refusal]
    was = world.mode
    world.mode = mode
    return [was]


def jump_to_name(world, number):
    names = names_like(world.ring)
    if number >= len(names):
        return [NOT_THERE]
    was = names.index(name_of(world.ring))
    world.ring = names[number]
    return [was]


CHANGES_OF_ONE = {2: change_eyes, 4: untell_view, 5: change_mode, 6: jump_to_name}
CHANGES_OF_TWO = {0: begin_ring, 1: put_robots, 3: tell_view}


def is_change(call):
    return call in CHANGES_OF_ONE or call in CHANGES_OF_TWO


def answer_change(world, call, arguments):
    if call in CHANGES_OF_ONE:
        return CHANGES_OF_ONE[call](world, arguments[0])
    return CHANGES_OF_TWO[call](world, arguments[0], arguments[1])

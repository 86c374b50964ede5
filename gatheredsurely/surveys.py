"""The calls that only ask, of all names of as many robots as there are."""

from gatheredsurely.gathering import following_by_name, longest_by_name
from gatheredsurely.refusals import LAST_MODE, refusal_of_done, refusal_of_mode
from gatheredsurely.rings import all_apart, names_like
from gatheredsurely.state import NO_PLACE, NOT_THERE
from gatheredsurely.views import view_of


def longest_of_names(world, rule, mode):
    """What gathers surely if this were the rule and moves were so, with how many moves it takes at the most."""
    return longest_by_name(following_by_name(world.ring, world.eyes, rule, mode))


def sure_numbers(world, rule, mode):
    """How many names gather surely if this were the rule and moves were so, then their numbers."""
    longest = longest_of_names(world, rule, mode)
    numbers = [number for number, name in enumerate(names_like(world.ring)) if name in longest]
    return [len(numbers)] + numbers


def rule_with(rule, view, done):
    # A copy, since the rule itself must stay as it was.
    changed = {}
    for other in rule:
        changed[other] = rule[other]
    changed[view] = done
    return changed


def survey_sures(world):
    return sure_numbers(world, world.rule, world.mode)


def survey_beginnings(world):
    longest = longest_of_names(world, world.rule, world.mode)
    apart = [name for name in names_like(world.ring) if all_apart(name)]
    return [len([name for name in apart if name in longest]), len(apart)]


def survey_if_at(world, mode):
    refusal = refusal_of_mode(mode)
    if refusal is not None:
        return [refusal]
    return sure_numbers(world, world.rule, mode)


def survey_if_tell(world, place, done):
    refusal = refusal_of_done(world, place, done)
    if refusal is not None:
        return [refusal]
    view = view_of(world.ring, world.eyes, place)
    return sure_numbers(world, rule_with(world.rule, view, done), world.mode)


def survey_all_at(world):
    sure = [len(longest_of_names(world, world.rule, mode)) for mode in range(LAST_MODE + 1)]
    return sure + [len(names_like(world.ring))]


def survey_longest_of(world, number):
    names = names_like(world.ring)
    if number >= len(names):
        # Of this call alone the refusal of a missing place is that of a missing name.
        return [NO_PLACE]
    longest = longest_of_names(world, world.rule, world.mode)
    return [longest.get(names[number], NOT_THERE)]


SURVEYS = {12: survey_sures, 13: survey_beginnings, 19: survey_all_at}
SURVEYS_OF_ONE = {17: survey_if_at, 20: survey_longest_of}
SURVEYS_OF_TWO = {18: survey_if_tell}


def answer_survey(world, call, arguments):
    if call in SURVEYS:
        return SURVEYS[call](world)
    if call in SURVEYS_OF_ONE:
        return SURVEYS_OF_ONE[call](world, arguments[0])
    return SURVEYS_OF_TWO[call](world, arguments[0], arguments[1])

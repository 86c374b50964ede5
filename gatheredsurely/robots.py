"""The interface: a list of calls on a new object, and the list of their answers."""

from gatheredsurely.changes import answer_change, is_change
from gatheredsurely.questions import answer_question, is_question
from gatheredsurely.state import NOT_BEGUN, World, is_begun
from gatheredsurely.surveys import answer_survey

BEGIN = 0

# How many arguments each call has, by its number, begin to told.
ARGUMENTS = (2, 2, 1, 2, 1, 1, 1, 0, 0, 0, 0, 0, 0, 0, 0, 0, 0, 1, 2, 0, 1, 0, 0)


def answer_call(world, call, arguments):
    if call != BEGIN and not is_begun(world):
        return [NOT_BEGUN]
    if is_change(call):
        return answer_change(world, call, arguments)
    if is_question(call):
        return answer_question(world, call)
    return answer_survey(world, call, arguments)


def answers(calls):
    world = World()
    given = []
    start = 0
    while start < len(calls):
        call = calls[start]
        end = start + 1 + ARGUMENTS[call]
        answer = answer_call(world, call, calls[start + 1:end])
        given.append(len(answer))
        given.extend(answer)
        start = end
    return given

"""Calls by their names, for the tests: written into one list, and the answers read out of one list."""

from gatheredsurely.robots import answers

CALLS = (
    ("begin", 2), ("put", 2), ("eyes", 1), ("tell", 2), ("untell", 1), ("at", 1), ("jump", 1), ("ring", 0),
    ("rank", 0), ("done", 0), ("sure", 0), ("longest", 0), ("sures", 0), ("beginnings", 0), ("soonest", 0),
    ("bad", 0), ("worst", 0), ("ifat", 1), ("iftell", 2), ("allat", 0), ("longestof", 1), ("hopeless", 0),
    ("told", 0),
)
NUMBERS = {name: number for number, (name, count) in enumerate(CALLS)}
COUNTS = dict(CALLS)
LARGEST = 4294967295


def written(line):
    """line: a list of calls, each a tuple of a call's name and its numbers, or the name alone."""
    numbers = []
    for call in line:
        call = (call,) if isinstance(call, str) else call
        if len(call) != 1 + COUNTS[call[0]]:
            raise ValueError(f"not a call: {call}")
        numbers.extend([NUMBERS[call[0]], *call[1:]])
    if not 1 <= len(line) <= 40 or len(numbers) > 120:
        raise ValueError("no such line is handed in")
    return numbers


def split(given):
    """The answers of one list, a list for each call."""
    found = []
    start = 0
    while start < len(given):
        end = start + 1 + given[start]
        if given[start] < 1 or end > len(given):
            raise ValueError(f"not a list of answers: {given}")
        found.append(given[start + 1:end])
        start = end
    return found


def ask(*line):
    found = split(answers(written(line)))
    if len(found) != len(line):
        raise ValueError("not an answer for each call")
    return found


def last(*line):
    return ask(*line)[-1]


def puts(ring):
    """The calls that make an empty ring this one."""
    return [("put", place, robots) for place, robots in enumerate(ring) if robots]


def begun(ring, eyes=0):
    return [("begin", len(ring), eyes), *puts(ring)]


def ruled(ring, tells, mode=0, eyes=0):
    """The calls that end on this ring; tells: rings, and what is told there at which places."""
    line = [("begin", len(ring), eyes), ("at", mode)]
    now = [0] * len(ring)
    for other, told in [*tells, (ring, {})]:
        # Robots are taken away ahead of others that are put, so that there are never more than four.
        for place in sorted(range(len(ring)), key=lambda place: other[place] - now[place]):
            if other[place] != now[place]:
                line.append(("put", place, other[place]))
        now = list(other)
        line += [("tell", place, done) for place, done in told.items()]
    return line


def asked(line, *calls):
    """What these calls answer behind a line in which nothing is refused."""
    found = ask(*line, *calls)
    if any(answer[0] < 0 for answer in found[:len(line)]):
        raise ValueError(f"the line is not as meant: {found}")
    return found[len(line):]

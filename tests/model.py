"""A second telling of the document, for the tests to compare with: slow, by robots one by one and whole rings."""

import itertools


def views(ring, eyes, place):
    n = len(ring)
    sight = [(x, min(x, 2), min(x, 1))[eyes] for x in ring]
    up = [sight[(place + k) % n] for k in range(n)]
    down = [sight[(place + n - k) % n] for k in range(n)]
    return up, down


def lesser(ring, eyes, place):
    return tuple(min(views(ring, eyes, place)))


def even(ring, eyes, place):
    up, down = views(ring, eyes, place)
    return up == down


def same_rings(ring):
    n = len(ring)
    found = set()
    for way in (list(ring), list(ring)[::-1]):
        for k in range(n):
            found.add(tuple(way[k:] + way[:k]))
    return found


def name(ring):
    return min(same_rings(ring))


def rings(n, k):
    return [ring for ring in itertools.product(range(k + 1), repeat=n) if sum(ring) == k]


def names(n, k):
    return sorted({name(ring) for ring in rings(n, k)})


def goals(ring, eyes, rule, place):
    """Where a robot at this place may go to, if it goes; none if it isn't eager."""
    up, down = views(ring, eyes, place)
    what = rule.get(tuple(min(up, down)), 0)
    n = len(ring)
    above, below = (place + 1) % n, (place + n - 1) % n
    if what == 0:
        return []
    if up == down:
        return [above, below]
    return [above if (up < down) == (what == 1) else below]


def follow(ring, eyes, rule, mode):
    """All rings that may come next; none if nobody's eager."""
    stand = [place for place, count in enumerate(ring) for robot in range(count)]
    wishes = [goals(ring, eyes, rule, place) for place in stand]
    eager = sum(1 for wish in wishes if wish)
    found = set()
    for ends in itertools.product(*[[None] + wish for wish in wishes]):
        gone = sum(1 for end in ends if end is not None)
        if gone and (mode == 1 or gone == (1 if mode == 0 else eager)):
            after = [0] * len(ring)
            for place, end in zip(stand, ends):
                after[place if end is None else end] += 1
            found.add(tuple(after))
    return found


def rests(ring, eyes, rule):
    return sum(1 for x in ring if x) <= 1 and not follow(ring, eyes, rule, 1)


def gather(n, k, eyes, rule, mode):
    """Of all rings (not names) that gather surely: in how many moves at the most."""
    after = {ring: follow(ring, eyes, rule, mode) for ring in rings(n, k)}
    won = {ring: 0 for ring in after if rests(ring, eyes, rule)}
    for moves in range(1, len(after) + 1):
        new = [ring for ring in after if ring not in won and after[ring] and all(x in won for x in after[ring])]
        for ring in new:
            won[ring] = moves
    return won


class Model:
    """The twelve calls, as the document tells them."""

    def __init__(self):
        self.counts = None

    def call(self, what, *numbers):
        if what == "begin":
            return self.begin(*numbers)
        if self.counts is None:
            return [-11]
        return getattr(self, what)(*numbers)

    def begin(self, n, e):
        if n not in (3, 4, 5, 6, 7) or e not in (0, 1, 2):
            return [-22]
        self.counts = (0,) * n
        self.eye, self.rule, self.mode = e, {}, 0
        return [0]

    def put(self, p, x):
        if p not in range(len(self.counts)):
            return [-2]
        if x > 4:
            return [-22]
        new = list(self.counts)
        new[p] = x
        if sum(new) > 4:
            return [-28]
        was = self.counts[p]
        self.counts = tuple(new)
        return [was]

    def eyes(self, e):
        if e > 2:
            return [-22]
        was, self.eye, self.rule = self.eye, e, {}
        return [was]

    def no_view(self, p):
        if p not in range(len(self.counts)):
            return [-2]
        return [] if self.counts[p] else [-33]

    def tell(self, p, m):
        if self.no_view(p):
            return self.no_view(p)
        if m > 2 or m == 2 and even(self.counts, self.eye, p):
            return [-22]
        view = lesser(self.counts, self.eye, p)
        if len(set(self.rule) | {view}) > 24:
            return [-28]
        was = self.rule.get(view, 0)
        self.rule[view] = m
        return [was]

    def untell(self, p):
        if self.no_view(p):
            return self.no_view(p)
        if self.rule.pop(lesser(self.counts, self.eye, p), None) is None:
            return [-6]
        return [len(self.rule)]

    def at(self, a):
        if a > 2:
            return [-22]
        was, self.mode = self.mode, a
        return [was]

    def names(self):
        return names(len(self.counts), sum(self.counts))

    def jump(self, i):
        if i >= len(self.names()):
            return [-33]
        was = self.rank()
        self.counts = self.names()[i]
        return was

    def ring(self):
        return [len(self.counts), *self.counts]

    def rank(self):
        return [self.names().index(name(self.counts))]

    def done(self):
        return [int(rests(self.counts, self.eye, self.rule))]

    def won(self):
        return gather(len(self.counts), sum(self.counts), self.eye, self.rule, self.mode).get(self.counts, -33)

    def sure(self):
        return [int(self.won() >= 0)]

    def longest(self):
        return [self.won()]


def replies(line):
    """What the document asks for each call of a line."""
    model = Model()
    return [model.call(*((call,) if isinstance(call, str) else call)) for call in line]

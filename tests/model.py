"""A second telling of the document, for the tests to compare with: slow, by robots one by one and whole rings."""

import functools
import itertools


def views(ring, eyes, place):
    n = len(ring)
    sight = [(x, min(x, 2), min(x, 1))[eyes] for x in ring]
    up = [sight[(place + k) % n] for k in range(n)]
    down = [sight[(place + n - k) % n] for k in range(n)]
    return up, down


def lesser(ring, eyes, place):
    return tuple(min(views(ring, eyes, place)))


def even(ring, eyes, place):
    up, down = views(ring, eyes, place)
    return up == down


def same_rings(ring):
    n = len(ring)
    found = set()
    for way in (list(ring), list(ring)[::-1]):
        for k in range(n):
            found.add(tuple(way[k:] + way[:k]))
    return found


def name(ring):
    return min(same_rings(ring))


def rings(n, k):
    return [ring for ring in itertools.product(range(k + 1), repeat=n) if sum(ring) == k]


@functools.lru_cache(None)
def names(n, k):
    return sorted({name(ring) for ring in rings(n, k)})


def goals(ring, eyes, rule, place):
    """Where a robot at this place may go to, if it goes; none if it isn't eager."""
    up, down = views(ring, eyes, place)
    what = rule.get(tuple(min(up, down)), 0)
    n = len(ring)
    above, below = (place + 1) % n, (place + n - 1) % n
    if what == 0:
        return []
    if up == down:
        return [above, below]
    return [above if (up < down) == (what == 1) else below]


def follow(ring, eyes, rule, mode):
    """All rings that may come next; none if nobody's eager."""
    stand = [place for place, count in enumerate(ring) for robot in range(count)]
    wishes = [goals(ring, eyes, rule, place) for place in stand]
    eager = sum(1 for wish in wishes if wish)
    found = set()
    for ends in itertools.product(*[[None] + wish for wish in wishes]):
        gone = sum(1 for end in ends if end is not None)
        if gone and (mode == 1 or gone == (1 if mode == 0 else eager)):
            after = [0] * len(ring)
            for place, end in zip(stand, ends):
                after[place if end is None else end] += 1
            found.add(tuple(after))
    return found


def rests(ring, eyes, rule):
    return sum(1 for x in ring if x) <= 1 and not follow(ring, eyes, rule, 1)


def gather(n, k, eyes, rule, mode):
    """Of all rings (not names) that gather surely: in how many moves at the most."""
    return gather_by(n, k, eyes, tuple(sorted(rule.items())), mode)


@functools.lru_cache(6)
def gather_by(n, k, eyes, told, mode):
    rule = dict(told)
    after = {ring: follow(ring, eyes, rule, mode) for ring in rings(n, k)}
    won = {ring: 0 for ring in after if rests(ring, eyes, rule)}
    for moves in range(1, len(after) + 1):
        new = [ring for ring in after if ring not in won and after[ring] and all(x in won for x in after[ring])]
        if not new:
            break
        for ring in new:
            won[ring] = moves
    return won


def luck(n, k, eyes, rule, mode):
    """Of all rings that may come to rest together by some choice: in how few moves."""
    return luck_by(n, k, eyes, tuple(sorted(rule.items())), mode)


@functools.lru_cache(6)
def luck_by(n, k, eyes, told, mode):
    rule = dict(told)
    after = {ring: follow(ring, eyes, rule, mode) for ring in rings(n, k)}
    near = {ring: 0 for ring in after if rests(ring, eyes, rule)}
    for moves in range(1, len(after) + 1):
        new = [ring for ring in after if ring not in near and any(x in near for x in after[ring])]
        if not new:
            break
        for ring in new:
            near[ring] = moves
    return near


def turnings(n):
    """For each turning but by 0, to which place each place goes."""
    return [[(k + s) % n for k in range(n)] for s in range(1, n)]


def mirrorings(n):
    return [[(s - k) % n for k in range(n)] for s in range(n)]


def hopeless(ring):
    n = len(ring)
    ways = turnings(n) + [way for way in mirrorings(n) if all(way[k] != k for k in range(n))]
    return any(ring) and any(all(ring[k] == ring[way[k]] for k in range(n)) for way in ways)


def apart(ring):
    return not [x for x in ring if x > 1]


def nexts(ring, eyes, rule, mode):
    """The names that may come next, in order."""
    return sorted({name(after) for after in follow(ring, eyes, rule, mode)})


class Model:
    """The calls, as the document tells them."""

    def __init__(self, counts=None, eye=0, rule=None, mode=0):
        self.counts, self.eye, self.rule, self.mode = counts, eye, rule, mode

    def call(self, what, *numbers):
        if what == "begin":
            return self.begin(*numbers)
        if self.counts is None:
            return [-11]
        return getattr(self, what)(*numbers)

    def begin(self, n, e):
        if n not in (3, 4, 5, 6, 7) or e not in (0, 1, 2):
            return [-22]
        self.counts = (0,) * n
        self.eye, self.rule, self.mode = e, {}, 0
        return [0]

    def put(self, p, x):
        if p not in range(len(self.counts)):
            return [-2]
        if x > 4:
            return [-22]
        new = list(self.counts)
        new[p] = x
        if sum(new) > 4:
            return [-28]
        was = self.counts[p]
        self.counts = tuple(new)
        return [was]

    def eyes(self, e):
        if e > 2:
            return [-22]
        was, self.eye, self.rule = self.eye, e, {}
        return [was]

    def no_view(self, p):
        if p not in range(len(self.counts)):
            return [-2]
        return [] if self.counts[p] else [-33]

    def tell(self, p, m):
        if self.no_view(p):
            return self.no_view(p)
        if m > 2 or m == 2 and even(self.counts, self.eye, p):
            return [-22]
        view = lesser(self.counts, self.eye, p)
        if len(set(self.rule) | {view}) > 24:
            return [-28]
        was = self.rule.get(view, 0)
        self.rule[view] = m
        return [was]

    def untell(self, p):
        if self.no_view(p):
            return self.no_view(p)
        if self.rule.pop(lesser(self.counts, self.eye, p), None) is None:
            return [-6]
        return [len(self.rule)]

    def at(self, a):
        if a > 2:
            return [-22]
        was, self.mode = self.mode, a
        return [was]

    def names(self):
        return names(len(self.counts), sum(self.counts))

    def jump(self, i):
        if i >= len(self.names()):
            return [-33]
        was = self.rank()
        self.counts = self.names()[i]
        return was

    def ring(self):
        return [len(self.counts), *self.counts]

    def rank(self):
        return [self.names().index(name(self.counts))]

    def done(self):
        return [int(rests(self.counts, self.eye, self.rule))]

    def won(self, rule=None, mode=None):
        rule = self.rule if rule is None else rule
        mode = self.mode if mode is None else mode
        return gather(len(self.counts), sum(self.counts), self.eye, rule, mode)

    def sure(self):
        return [int(self.counts in self.won())]

    def longest(self):
        return [self.won().get(self.counts, -33)]

    def sures(self, rule=None, mode=None):
        won = self.won(rule, mode)
        found = [rank for rank, ring in enumerate(self.names()) if ring in won]
        return [len(found), *found]

    def beginnings(self):
        good = [ring for ring in self.names() if apart(ring)]
        return [len(set(good) & set(self.won())), len(good)]

    def soonest(self):
        return [luck(len(self.counts), sum(self.counts), self.eye, self.rule, self.mode).get(self.counts, -33)]

    def nexts(self, ring):
        return nexts(ring, self.eye, self.rule, self.mode)

    def bad(self):
        won = self.won()
        if self.counts in won:
            return [-6]
        play = [name(self.counts)]
        while len(set(play)) == len(play):
            lost = [ring for ring in self.nexts(play[-1]) if ring not in won]
            if not lost:
                break
            play.append(lost[0])
        return [len(play), *[self.names().index(ring) for ring in play]]

    def worst(self):
        won = self.won()
        after = self.nexts(self.counts)
        if not after:
            return [-33]
        # What doesn't gather surely is worse than whatever does.
        return [self.names().index(max(after, key=lambda ring: won.get(ring, 10 ** 6)))]

    def ifat(self, a):
        return [-22] if a > 2 else self.sures(mode=a)

    def iftell(self, p, m):
        if self.no_view(p):
            return self.no_view(p)
        if m > 2 or m == 2 and even(self.counts, self.eye, p):
            return [-22]
        return self.sures(rule=self.rule | {lesser(self.counts, self.eye, p): m})

    def allat(self):
        return [*[self.sures(mode=mode)[0] for mode in range(3)], len(self.names())]

    def longestof(self, i):
        if i >= len(self.names()):
            return [-2]
        return [self.won().get(self.names()[i], -33)]

    def hopeless(self):
        return [int(hopeless(self.counts))]

    def told(self):
        together = sum(1 for x in self.counts if x) < 2
        return [len(self.counts), self.eye, self.mode, sum(self.counts), int(together)]


def replies(line):
    """What the document asks for each call of a line."""
    model = Model()
    return [model.call(*((call,) if isinstance(call, str) else call)) for call in line]

"""How the tests write calls and read answers, and a plain model of the document to compare with."""

import functools
import itertools
import math
from fractions import Fraction

from laidstrands.strand import answers

TOP = 4294967295

NUMBERS = {"begin": 0, "bobbin": 1, "joint": 2, "join": 3, "could": 4, "cut": 5,
           "least": 6, "cutleast": 7, "fine": 8, "bad": 9, "nearest": 10, "run": 11, "may": 12, "lasts": 13,
           "places": 14, "next": 15, "gone": 16, "wire": 17, "look": 18, "sums": 19}

OF_A_BOBBIN = ("joint", "join", "could", "cut", "places", "wire", "look")


def written(calls):
    """The list of whole numbers for calls told as tuples: ("joint", 0, 10)."""
    return [number for call in calls for number in (NUMBERS[call[0]],) + tuple(call[1:])]


def parted(given):
    """The answers one by one, each a list, out of what answers gives back."""
    found = []
    at = 0
    while at < len(given):
        found.append(given[at + 1:at + 1 + given[at]])
        at += 1 + given[at]
    return found


def ask(*calls):
    """The answer to each call; an answer of one number is told as that number."""
    found = parted(answers(written(calls)))
    assert len(found) == len(calls)
    return [one[0] if len(one) == 1 else one for one in found]


def last(*calls):
    return ask(*calls)[-1]


def line(gap, *wire):
    """Calls that make bobbins told as (lay, left, joint, joint, ..)."""
    calls = [("begin", gap)]
    for b, one in enumerate(wire):
        calls.append(("bobbin", one[0], one[1]))
        calls.extend([("joint", b, at) for at in one[2:]])
    return calls


def state(count):
    """Calls that tell all of a strand with so many bobbins."""
    return [("sums",), ("gone",)] + [("look", b) for b in range(count)]


@functools.cache
def strand_of(lay, wire):
    return math.floor(Fraction(wire * 1000, lay))


class Model:
    """The document's words with no thought for speed: every pair and every way to cut is looked at.
    reels[b] is [lay, left, joints]."""

    def __init__(self):
        self.gap = None
        self.clear()

    def clear(self):
        self.reels = []
        self.laid = 0
        self.came_by = []
        self.cut_off = 0

    def place(self, lay, at):
        return self.laid + strand_of(lay, at)

    def lying(self, reels):
        return [(self.place(lay, at), b) for b, (lay, left, joints) in enumerate(reels) for at in sorted(joints)]

    def near_pairs(self, reels):
        lying = self.lying(reels)
        beside = [(place, None) for place in self.came_by]
        pairs = list(itertools.combinations(lying, 2)) + list(itertools.product(lying, beside))
        return [(one, two) for one, two in pairs if abs(one[0] - two[0]) < self.gap]

    def without(self, way):
        return [[lay, left - off, [at - off for at in joints if at >= off]]
                for off, (lay, left, joints) in zip(way, self.reels)]

    def best_way(self):
        ways = itertools.product(*[range(min(8, left) + 1) for lay, left, joints in self.reels])
        for way in sorted(ways, key=lambda way: (sum(way), way)):
            if not self.near_pairs(self.without(way)):
                return way
        return None

    def answer(self, name, *numbers):
        if name == "begin":
            if numbers[0] > 10000:
                return [-22]
            self.gap = numbers[0]
            self.clear()
            return [0]
        if self.gap is None:
            return [-11]
        if name in OF_A_BOBBIN and numbers[0] >= len(self.reels):
            return [-2]
        return getattr(self, name)(*numbers)

    def bobbin(self, lay, left):
        if not 1000 <= lay <= 2000 or left > 100000:
            return [-22]
        if len(self.reels) == 4:
            return [-28]
        self.reels.append([lay, left, []])
        return [len(self.reels) - 1]

    def joint(self, b, at):
        lay, left, joints = self.reels[b]
        if at >= left:
            return [-22]
        if at in joints:
            return [-17]
        if len(joints) == 4:
            return [-28]
        joints.append(at)
        return [self.place(lay, at)]

    def joined(self, b, n):
        lay, left, joints = self.reels[b]
        return [lay, left + n, joints + [left] if left else joints]

    def join(self, b, n):
        if n == 0 or self.reels[b][1] + n > 100000:
            return [-22]
        if len(self.reels[b][2]) == 4 and self.reels[b][1]:
            return [-28]
        self.reels[b] = self.joined(b, n)
        return [self.reels[b][1]]

    def could(self, b, n):
        if n == 0 or self.reels[b][1] + n > 100000:
            return [-22]
        reels = self.reels[:b] + [self.joined(b, n)] + self.reels[b + 1:]
        return [0 if self.near_pairs(reels) else 1]

    def cut(self, b, n):
        if self.reels[b][1] < n:
            return [-12]
        self.reels = self.without([n if k == b else 0 for k in range(len(self.reels))])
        self.cut_off += n
        return [self.reels[b][1]]

    def least(self):
        way = self.best_way()
        return [-33] if way is None else [sum(way)] + list(way)

    def cutleast(self):
        way = self.best_way()
        if way is None:
            return [-33]
        self.reels = self.without(way)
        self.cut_off += sum(way)
        return [sum(way)]

    def fine(self):
        return [0 if self.near_pairs(self.reels) else 1]

    def bad(self):
        bad = sorted({b for pair in self.near_pairs(self.reels) for place, b in pair if b is not None})
        return [len(bad)] + bad

    def nearest(self):
        places = self.came_by + [place for place, b in self.lying(self.reels)]
        return [min([abs(one - two) for one, two in itertools.combinations(places, 2)], default=-33)]

    def taken(self, n):
        return [math.ceil(Fraction(n * lay, 1000)) for lay, left, joints in self.reels]

    def enough(self, n):
        return bool(self.reels) and all(taken <= reel[1] for taken, reel in zip(self.taken(n), self.reels))

    def run(self, n):
        if not 1 <= n <= 100000:
            return [-22]
        if not self.enough(n):
            return [-12]
        if self.near_pairs(self.reels):
            return [-33]
        for taken, (lay, left, joints) in zip(self.taken(n), self.reels):
            self.came_by += [self.place(lay, at) for at in sorted(joints) if at < taken]
        self.reels = self.without(self.taken(n))
        self.laid += n
        return [self.laid]

    def may(self, n):
        if not 1 <= n <= 100000:
            return [-22]
        return [1 if self.enough(n) and not self.near_pairs(self.reels) else 0]

    def lasts(self):
        n = 0
        for step in (10000, 1000, 100, 10, 1):
            while self.enough(n + step):
                n += step
        return [n]

    def places(self, b):
        places = [place for place, owner in self.lying(self.reels) if owner == b]
        return [len(places)] + places

    def next(self):
        return list(min(self.lying(self.reels), default=[-33]))

    def gone(self):
        return [len(self.came_by)] + self.came_by

    def wire(self, b, n):
        return [-22] if n > 100000 else [self.taken(n)[b]]

    def look(self, b):
        lay, left, joints = self.reels[b]
        return [left, lay] + sorted(joints)

    def sums(self):
        return [self.laid, self.gap, len(self.reels), self.cut_off, len(self.came_by)]

"""How the tests write calls and read answers, and a plain model of the document to compare with."""

import itertools

from laidstrands.strand import answers

TOP = 4294967295

NUMBERS = {"begin": 0, "bobbin": 1, "joint": 2, "join": 3, "could": 4, "cut": 5,
           "least": 6, "cutleast": 7, "fine": 8, "bad": 9}


def written(calls):
    """The list of whole numbers for calls told as tuples: ("joint", 0, 10)."""
    return [number for call in calls for number in (NUMBERS[call[0]],) + tuple(call[1:])]


def parted(given):
    """The answers one by one, each a list, out of what answers gives back."""
    found = []
    at = 0
    while at < len(given):
        found.append(given[at + 1:at + 1 + given[at]])
        at += 1 + given[at]
    return found


def ask(*calls):
    """The answer to each call; an answer of one number is told as that number."""
    found = parted(answers(written(calls)))
    assert len(found) == len(calls)
    return [one[0] if len(one) == 1 else one for one in found]


def last(*calls):
    return ask(*calls)[-1]


class Model:
    """The document's words with no thought for speed: every pair and every way to cut is looked at.
    wire[b] is [lay, left, joints]."""

    def __init__(self):
        self.gap = None
        self.wire = []

    def near_pairs(self, wire):
        lying = [(at * 1000 // lay, b) for b, (lay, left, joints) in enumerate(wire) for at in joints]
        return [(one, two) for one, two in itertools.combinations(lying, 2) if abs(one[0] - two[0]) < self.gap]

    def without(self, way):
        return [[lay, left - off, [at - off for at in joints if at >= off]]
                for off, (lay, left, joints) in zip(way, self.wire)]

    def best_way(self):
        ways = itertools.product(*[range(min(8, left) + 1) for lay, left, joints in self.wire])
        fine = [way for way in ways if not self.near_pairs(self.without(way))]
        return min(fine, key=lambda way: (sum(way), way), default=None)

    def answer(self, name, *numbers):
        if name == "begin":
            if numbers[0] > 10000:
                return [-22]
            self.gap = numbers[0]
            self.wire = []
            return [0]
        if self.gap is None:
            return [-11]
        if name in ("joint", "join", "could", "cut") and numbers[0] >= len(self.wire):
            return [-2]
        return getattr(self, name)(*numbers)

    def bobbin(self, lay, left):
        if not 1000 <= lay <= 2000 or left > 100000:
            return [-22]
        if len(self.wire) == 4:
            return [-28]
        self.wire.append([lay, left, []])
        return [len(self.wire) - 1]

    def joint(self, b, at):
        lay, left, joints = self.wire[b]
        if at >= left:
            return [-22]
        if at in joints:
            return [-17]
        if len(joints) == 4:
            return [-28]
        joints.append(at)
        return [at * 1000 // lay]

    def joined(self, b, n):
        lay, left, joints = self.wire[b]
        return [lay, left + n, joints + [left] if left else joints]

    def join(self, b, n):
        if n == 0 or self.wire[b][1] + n > 100000:
            return [-22]
        if len(self.wire[b][2]) == 4 and self.wire[b][1]:
            return [-28]
        self.wire[b] = self.joined(b, n)
        return [self.wire[b][1]]

    def could(self, b, n):
        if n == 0 or self.wire[b][1] + n > 100000:
            return [-22]
        wire = self.wire[:b] + [self.joined(b, n)] + self.wire[b + 1:]
        return [0 if self.near_pairs(wire) else 1]

    def cut(self, b, n):
        if self.wire[b][1] < n:
            return [-12]
        self.wire = self.without([n if k == b else 0 for k in range(len(self.wire))])
        return [self.wire[b][1]]

    def least(self):
        way = self.best_way()
        return [-33] if way is None else [sum(way)] + list(way)

    def cutleast(self):
        way = self.best_way()
        if way is None:
            return [-33]
        self.wire = self.without(way)
        return [sum(way)]

    def fine(self):
        return [0 if self.near_pairs(self.wire) else 1]

    def bad(self):
        bad = sorted({b for pair in self.near_pairs(self.wire) for place, b in pair})
        return [len(bad)] + bad

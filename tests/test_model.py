"""Promises 1 to 4 on many lines: what is answered is what a plain model of the document answers, and what holds."""

import itertools
import random
import unittest

from laidstrands.strand import answers
from tests.lines import OF_A_BOBBIN, TOP, Model, ask, parted, written

NAMES = ("joint", "joint", "joint", "joint", "join", "could", "cut", "least", "cutleast", "fine", "bad", "nearest",
         "run", "run", "run", "may", "lasts", "places", "next", "gone", "wire", "look", "sums")


def some_bobbin(chance):
    return chance.choice((0, 0, 0, 0, 1, 1, 1, 2, 2, 3, 4))


def some_metres(chance, reach):
    if chance.random() < 0.05:
        return chance.choice((0, 1, 99999, 100000, 100001, TOP))
    return chance.randrange(reach)


def some_call(chance, reach):
    if chance.random() < 0.02:
        return ("begin", chance.choice((0, 3, 10000, 10001, TOP)))
    if chance.random() < 0.05:
        return ("bobbin", chance.choice((999, 1000, 1500, 2000, 2001)), some_metres(chance, reach))
    name = chance.choice(NAMES)
    numbers = []
    if name in OF_A_BOBBIN:
        numbers.append(some_bobbin(chance))
    if name in ("joint", "join", "could", "wire"):
        numbers.append(some_metres(chance, reach))
    if name in ("cut", "run", "may"):
        numbers.append(some_metres(chance, min(9, reach)))
    return (name, *numbers)


def some_line(chance, most=25):
    reach = chance.choice((5, 20, 60))
    calls = [("begin", chance.choice((0, 1, 2, 3, 4, 6, 9)))]
    for count in range(chance.randrange(1, 5)):
        lay = chance.choice((1000, 1000 + chance.randrange(1001), 2000))
        calls.append(("bobbin", lay, chance.randrange(reach) + chance.choice((0, reach))))
    calls.extend([some_call(chance, reach) for count in range(chance.randrange(5, most))])
    return calls if chance.random() < 0.95 else calls[1:]


def full_line(chance):
    reach = chance.choice((12, 30, 90))
    bobbins = chance.randrange(2, 5)
    calls = [("begin", chance.choice((1, 2, 3, 4)))]
    calls.extend([("bobbin", chance.choice((1000, 1300, 1777, 2000)), reach) for count in range(bobbins)])
    calls.extend([("joint", chance.randrange(bobbins), chance.randrange(reach))
                  for count in range(chance.randrange(2, 10))])
    return calls + [("fine",), ("bad",), ("could", 0, 1), ("least",), ("cutleast",), ("bad",), ("could", 1, 1)]


def long_line(chance):
    """Much wire, with joints few and far enough between that many a run is laid."""
    bobbins = chance.randrange(1, 5)
    calls = [("begin", chance.choice((0, 1, 3, 8)))]
    calls.extend([("bobbin", chance.choice((1000, 1001, 1500, 1777, 2000)), chance.randrange(200, 900))
                  for count in range(bobbins)])
    while len(calls) < 60:
        b = chance.randrange(bobbins)
        calls.append(chance.choice((("joint", b, chance.randrange(200)), ("run", chance.randrange(1, 40)),
                                    ("run", chance.randrange(1, 9)), ("cutleast",), ("join", b, 50))))
    return calls + [(name,) for name in ("fine", "bad", "nearest", "lasts", "next", "gone", "sums", "least")]


class AsTheModel(unittest.TestCase):
    def compare(self, calls):
        model = Model()
        told = [model.answer(*call) for call in calls]
        self.assertEqual(parted(answers(written(calls))), told, calls)
        return told

    def test_many_lines(self):
        chance = random.Random(20)
        for count in range(400):
            self.compare(some_line(chance, 40))

    def test_many_bobbins_full_of_joints(self):
        chance = random.Random(7)
        for count in range(150):
            self.compare(full_line(chance))

    def test_many_runs(self):
        chance = random.Random(11)
        came_by = [self.compare(long_line(chance))[-2][4] for count in range(60)]
        self.assertGreater(sum(1 for count in came_by if count > 3), 30)


class WhatHolds(unittest.TestCase):
    def some_calls(self, seed, count):
        chance = random.Random(seed)
        for k in range(count):
            calls = some_line(chance) if k % 4 else long_line(chance)
            yield [("begin", chance.choice((0, 1, 4)))] + [call for call in calls if call[0] != "begin"]

    def test_none_is_bad_just_if_all_is_fine(self):
        for calls in self.some_calls(3, 300):
            fine, bad, least = ask(*calls, ("fine",), ("bad",), ("least",))[-3:]
            self.assertEqual(fine == 1, bad == 0)
            self.assertEqual(fine == 1, least != -33 and (least == 0 or least[0] == 0))

    def test_cut_off_as_told_all_is_fine(self):
        for calls in self.some_calls(4, 300):
            cut, behind = ask(*calls, ("cutleast",), ("fine",))[-2:]
            self.assertEqual(behind, 0 if cut == -33 else 1)

    def test_for_just_as_much_as_told_the_wire_lasts(self):
        for calls in self.some_calls(5, 300):
            lasts, fine, sums = ask(*calls, ("lasts",), ("fine",), ("sums",))[-3:]
            self.assertEqual(ask(*calls, ("run", lasts + 1))[-1], -12)
            if lasts > 0:
                self.assertEqual(ask(*calls, ("run", lasts))[-1], sums[0] + lasts if fine else -33)
            for b in range(sums[2]):
                look, wire = ask(*calls, ("look", b), ("wire", b, lasts))[-2:]
                self.assertLessEqual(wire, look[0])

    def test_may_answers_1_just_where_run_is_not_refused(self):
        for calls in self.some_calls(6, 300):
            lasts = ask(*calls, ("lasts",))[-1]
            for n in (0, 1, 2, lasts, lasts + 1, 100000, 100001):
                may, run = ask(*calls, ("may", n), ("run", n))[-2:]
                self.assertEqual(may == 1, run > 0)
                self.assertEqual(may == -22, run == -22)

    def test_laid_no_joints_lie_too_near(self):
        for calls in self.some_calls(8, 300):
            gone, sums = ask(*calls, ("gone",), ("sums",))[-2:]
            places = gone[1:] if gone else []
            self.assertEqual(len(places), sums[4])
            self.assertTrue(all(abs(one - two) >= sums[1] for one, two in itertools.combinations(places, 2)), calls)
            self.assertTrue(all(place < sums[0] for place in places), calls)


if __name__ == "__main__":
    unittest.main()

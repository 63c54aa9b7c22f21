"""Promises 1 to 3 on many lines: what is answered is what a plain model of the document answers."""

import random
import unittest

from laidstrands.strand import answers
from tests.lines import TOP, Model, parted, written

NAMES = ("joint", "joint", "joint", "joint", "join", "could", "cut", "least", "cutleast", "fine", "bad")


def some_bobbin(chance):
    return chance.choice((0, 0, 1, 1, 2, 3, 4))


def some_metres(chance, reach):
    if chance.random() < 0.05:
        return chance.choice((0, 1, 99999, 100000, 100001, TOP))
    return chance.randrange(reach)


def some_call(chance, reach):
    if chance.random() < 0.02:
        return ("begin", chance.choice((0, 3, 10000, 10001, TOP)))
    if chance.random() < 0.1:
        return ("bobbin", chance.choice((999, 1000, 1500, 2000, 2001)), some_metres(chance, reach))
    name = chance.choice(NAMES)
    if name in ("least", "cutleast", "fine", "bad"):
        return (name,)
    return (name, some_bobbin(chance), some_metres(chance, 9 if name == "cut" else reach))


def some_line(chance):
    reach = chance.choice((5, 20, 60))
    calls = [("begin", chance.choice((0, 1, 2, 3, 4, 6, 9)))]
    for count in range(chance.randrange(1, 5)):
        lay = chance.choice((1000, 1000 + chance.randrange(1001), 2000))
        calls.append(("bobbin", lay, chance.randrange(reach) + chance.choice((0, reach))))
    calls.extend([some_call(chance, reach) for count in range(chance.randrange(5, 25))])
    return calls if chance.random() < 0.95 else calls[1:]


def full_line(chance):
    reach = chance.choice((12, 30, 90))
    bobbins = chance.randrange(2, 5)
    calls = [("begin", chance.choice((1, 2, 3, 4)))]
    calls.extend([("bobbin", chance.choice((1000, 1300, 1777, 2000)), reach) for count in range(bobbins)])
    calls.extend([("joint", chance.randrange(bobbins), chance.randrange(reach))
                  for count in range(chance.randrange(2, 10))])
    return calls + [("fine",), ("bad",), ("could", 0, 1), ("least",), ("cutleast",), ("bad",), ("could", 1, 1)]


class AsTheModel(unittest.TestCase):
    def test_many_lines(self):
        chance = random.Random(20)
        for count in range(400):
            calls = some_line(chance)
            model = Model()
            told = [model.answer(*call) for call in calls]
            self.assertEqual(parted(answers(written(calls))), told, calls)

    def test_many_bobbins_full_of_joints(self):
        chance = random.Random(7)
        for count in range(150):
            calls = full_line(chance)
            model = Model()
            told = [model.answer(*call) for call in calls]
            self.assertEqual(parted(answers(written(calls))), told, calls)

    def test_what_holds(self):
        chance = random.Random(3)
        for count in range(400):
            calls = [call for call in some_line(chance) if call[0] != "begin"]
            found = parted(answers(written([("begin", 4)] + calls + [("fine",), ("bad",), ("cutleast",), ("fine",)])))
            fine, bad, cut, behind = found[-4:]
            self.assertEqual(fine == [1], bad == [0])
            self.assertEqual(behind, [0] if cut == [-33] else [1])
            self.assertEqual(fine == [1], cut == [0])


if __name__ == "__main__":
    unittest.main()

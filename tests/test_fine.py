"""Promise 2: fine, bad."""

import unittest

from laidstrands.bobbin import Bobbin
from laidstrands.strand import Strand, call_bad, call_could, call_fine
from tests.lines import ask, last


def judged(gap, *wire):
    """What fine and bad answer for bobbins told as (lay, joint, joint, ..)."""
    calls = [("begin", gap)]
    for b, one in enumerate(wire):
        calls.append(("bobbin", one[0], 100000))
        calls.extend([("joint", b, at) for at in one[1:]])
    return ask(*calls, ("fine",), ("bad",))[-2:]


def strand_of(gap, laid, passed, *wire):
    strand = Strand()
    strand.restart(gap)
    strand.begun = True
    strand.laid = laid
    strand.passed = passed
    for one in wire:
        bobbin = Bobbin(one[0], 100000)
        for at in one[1:]:
            bobbin.add_joint(at)
        strand.bobbins.append(bobbin)
    return strand


class Fine(unittest.TestCase):
    def test_without_bobbins_or_joints(self):
        self.assertEqual(judged(10000), [1, 0])
        self.assertEqual(judged(10000, (1000,), (2000,)), [1, 0])

    def test_one_joint(self):
        self.assertEqual(judged(10000, (1000, 0)), [1, 0])

    def test_just_gap_is_far_enough(self):
        self.assertEqual(judged(5, (1000, 10, 15)), [1, 0])
        self.assertEqual(judged(5, (1000, 10, 14)), [0, [1, 0]])
        self.assertEqual(judged(5, (1000, 15, 10)), [1, 0])
        self.assertEqual(judged(5, (1000, 14, 10)), [0, [1, 0]])

    def test_the_greatest_gap(self):
        self.assertEqual(judged(10000, (1000, 5), (1000, 10005)), [1, 0])
        self.assertEqual(judged(10000, (1000, 5), (1000, 10004)), [0, [2, 0, 1]])

    def test_a_gap_of_0(self):
        self.assertEqual(judged(0, (2000, 10, 11), (1000, 5, 6), (1000, 5)), [1, 0])

    def test_a_gap_of_1_parts_only_one_place(self):
        self.assertEqual(judged(1, (1000, 10, 11)), [1, 0])
        self.assertEqual(judged(1, (2000, 10, 11)), [0, [1, 0]])
        self.assertEqual(judged(1, (2000, 11, 12)), [1, 0])
        self.assertEqual(judged(1, (1000, 10), (1000, 10)), [0, [2, 0, 1]])

    def test_places_in_the_strand_count_not_wire(self):
        # 10 metres of wire apart, and 5 of strand.
        self.assertEqual(judged(5, (2000, 10, 20)), [1, 0])
        self.assertEqual(judged(6, (2000, 10, 20)), [0, [1, 0]])
        self.assertEqual(judged(5, (2000, 11, 20)), [1, 0])
        self.assertEqual(judged(5, (2000, 12, 21)), [0, [1, 0]])

    def test_it_changes_nothing(self):
        self.assertEqual(ask(("begin", 5), ("bobbin", 1000, 9), ("joint", 0, 1), ("joint", 0, 2), ("fine",), ("bad",),
                             ("fine",), ("bad",), ("cut", 0, 0), ("joint", 0, 1), ("joint", 0, 2))[4:],
                         [0, [1, 0], 0, [1, 0], 9, -17, -17])

    def test_a_joint_that_is_cut_off(self):
        calls = (("begin", 5), ("bobbin", 1000, 90), ("joint", 0, 1), ("joint", 0, 2))
        self.assertEqual(last(*calls, ("cut", 0, 1), ("fine",)), 0)
        self.assertEqual(last(*calls, ("cut", 0, 2), ("fine",)), 1)

    def test_a_cut_moves_the_others(self):
        calls = (("begin", 5), ("bobbin", 1000, 90), ("bobbin", 1000, 90), ("joint", 0, 20), ("joint", 1, 20))
        self.assertEqual(ask(*calls, ("fine",), ("cut", 1, 4), ("fine",), ("cut", 1, 1), ("fine",), ("cut", 0, 1),
                             ("fine",), ("bad",))[5:], [0, 86, 0, 85, 1, 89, 0, [2, 0, 1]])

    def test_a_join_can_make_it_bad(self):
        self.assertEqual(ask(("begin", 5), ("bobbin", 1000, 10), ("joint", 0, 6), ("fine",), ("could", 0, 9),
                             ("join", 0, 9), ("fine",), ("bad",))[3:], [1, 0, 19, 0, [1, 0]])


class Bad(unittest.TestCase):
    def test_only_those_that_are_too_near(self):
        self.assertEqual(judged(5, (1000, 10), (1000, 50), (1000, 14)), [0, [2, 0, 2]])
        self.assertEqual(judged(5, (1000, 10), (1000, 50), (1000, 54), (1000, 90, 91)), [0, [3, 1, 2, 3]])

    def test_all_four_rising(self):
        self.assertEqual(judged(5, (1000, 19), (1000, 16), (1000, 13), (1000, 10)), [0, [4, 0, 1, 2, 3]])

    def test_one_bobbin_by_itself(self):
        self.assertEqual(judged(5, (1000, 30), (1000, 10, 12)), [0, [1, 1]])

    def test_some_joint_is_enough(self):
        self.assertEqual(judged(5, (1000, 10, 30, 50, 70), (1000, 20, 40, 60, 74)), [0, [2, 0, 1]])


class BesideWhatCameBy(unittest.TestCase):
    def test_one_that_came_by_just_gap_ago(self):
        self.assertEqual(call_fine(strand_of(5, 10, [7], (1000, 2)), []), [1])
        self.assertEqual(call_bad(strand_of(5, 10, [7], (1000, 2)), []), [0])
        self.assertEqual(call_fine(strand_of(5, 10, [8], (1000, 2)), []), [0])
        self.assertEqual(call_bad(strand_of(5, 10, [8], (1000, 30), (1000, 2)), []), [1, 1])

    def test_one_that_came_by_behind(self):
        # What came by may lie behind what will lie, as places are rounded down.
        self.assertEqual(call_bad(strand_of(5, 10, [14], (1000, 0)), []), [1, 0])

    def test_two_that_came_by_are_not_looked_at(self):
        self.assertEqual(call_fine(strand_of(5, 100, [7, 8, 8], (1000, 2)), []), [1])
        self.assertEqual(call_bad(strand_of(5, 100, [7, 8, 8], (1000, 2)), []), [0])

    def test_could_looks_at_them(self):
        strand = strand_of(5, 10, [8], (1000,))
        strand.bobbins[0].left = 2
        self.assertEqual(call_could(strand, [0, 1]), [0])
        strand.bobbins[0].left = 3
        self.assertEqual(call_could(strand, [0, 1]), [1])


if __name__ == "__main__":
    unittest.main()

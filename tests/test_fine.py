"""Promise 2: fine, bad, nearest."""

import unittest

from tests.lines import ask, last, line


def judged(gap, *wire):
    """What fine and bad answer for bobbins told as (lay, joint, joint, ..)."""
    return ask(*line(gap, *[(one[0], 100000) + one[1:] for one in wire]), ("fine",), ("bad",))[-2:]


class Fine(unittest.TestCase):
    def test_without_bobbins_or_joints(self):
        self.assertEqual(judged(10000), [1, 0])
        self.assertEqual(judged(10000, (1000,), (2000,)), [1, 0])

    def test_one_joint(self):
        self.assertEqual(judged(10000, (1000, 0)), [1, 0])

    def test_just_gap_is_far_enough(self):
        self.assertEqual(judged(5, (1000, 10, 15)), [1, 0])
        self.assertEqual(judged(5, (1000, 10, 14)), [0, [1, 0]])
        self.assertEqual(judged(5, (1000, 15, 10)), [1, 0])
        self.assertEqual(judged(5, (1000, 14, 10)), [0, [1, 0]])

    def test_the_greatest_gap(self):
        self.assertEqual(judged(10000, (1000, 5), (1000, 10005)), [1, 0])
        self.assertEqual(judged(10000, (1000, 5), (1000, 10004)), [0, [2, 0, 1]])

    def test_a_gap_of_0(self):
        self.assertEqual(judged(0, (2000, 10, 11), (1000, 5, 6), (1000, 5)), [1, 0])

    def test_a_gap_of_1_parts_only_one_place(self):
        self.assertEqual(judged(1, (1000, 10, 11)), [1, 0])
        self.assertEqual(judged(1, (2000, 10, 11)), [0, [1, 0]])
        self.assertEqual(judged(1, (2000, 11, 12)), [1, 0])
        self.assertEqual(judged(1, (1000, 10), (1000, 10)), [0, [2, 0, 1]])

    def test_places_in_the_strand_count_not_wire(self):
        # 10 metres of wire apart, and 5 of strand.
        self.assertEqual(judged(5, (2000, 10, 20)), [1, 0])
        self.assertEqual(judged(6, (2000, 10, 20)), [0, [1, 0]])
        self.assertEqual(judged(5, (2000, 11, 20)), [1, 0])
        self.assertEqual(judged(5, (2000, 12, 21)), [0, [1, 0]])

    def test_it_changes_nothing(self):
        self.assertEqual(ask(("begin", 5), ("bobbin", 1000, 9), ("joint", 0, 1), ("joint", 0, 2), ("fine",), ("bad",),
                             ("fine",), ("bad",), ("cut", 0, 0), ("joint", 0, 1), ("joint", 0, 2))[4:],
                         [0, [1, 0], 0, [1, 0], 9, -17, -17])

    def test_a_joint_that_is_cut_off(self):
        calls = (("begin", 5), ("bobbin", 1000, 90), ("joint", 0, 1), ("joint", 0, 2))
        self.assertEqual(last(*calls, ("cut", 0, 1), ("fine",)), 0)
        self.assertEqual(last(*calls, ("cut", 0, 2), ("fine",)), 1)

    def test_a_cut_moves_the_others(self):
        calls = (("begin", 5), ("bobbin", 1000, 90), ("bobbin", 1000, 90), ("joint", 0, 20), ("joint", 1, 20))
        self.assertEqual(ask(*calls, ("fine",), ("cut", 1, 4), ("fine",), ("cut", 1, 1), ("fine",), ("cut", 0, 1),
                             ("fine",), ("bad",))[5:], [0, 86, 0, 85, 1, 89, 0, [2, 0, 1]])

    def test_a_join_can_make_it_bad(self):
        self.assertEqual(ask(("begin", 5), ("bobbin", 1000, 10), ("joint", 0, 6), ("fine",), ("could", 0, 9),
                             ("join", 0, 9), ("fine",), ("bad",))[3:], [1, 0, 19, 0, [1, 0]])


class Bad(unittest.TestCase):
    def test_only_those_that_are_too_near(self):
        self.assertEqual(judged(5, (1000, 10), (1000, 50), (1000, 14)), [0, [2, 0, 2]])
        self.assertEqual(judged(5, (1000, 10), (1000, 50), (1000, 54), (1000, 90, 91)), [0, [3, 1, 2, 3]])

    def test_all_four_rising(self):
        self.assertEqual(judged(5, (1000, 19), (1000, 16), (1000, 13), (1000, 10)), [0, [4, 0, 1, 2, 3]])

    def test_one_bobbin_by_itself(self):
        self.assertEqual(judged(5, (1000, 30), (1000, 10, 12)), [0, [1, 1]])

    def test_some_joint_is_enough(self):
        self.assertEqual(judged(5, (1000, 10, 30, 50, 70), (1000, 20, 40, 60, 74)), [0, [2, 0, 1]])


class BesideWhatCameBy(unittest.TestCase):
    def test_one_that_came_by_just_gap_ago(self):
        # It came by at 7, or at 8, and 10 metres are laid.
        for at, fine, bad in ((7, 1, 0), (8, 0, [1, 1])):
            calls = line(5, (1000, 90, at), (1000, 90)) + [("run", 10), ("joint", 1, 2)]
            self.assertEqual(ask(*calls, ("fine",), ("bad",), ("may", 1), ("run", 1))[-4:],
                             [fine, bad, fine, 11 if fine else -33])

    def test_one_that_came_by_is_of_no_bad_bobbin(self):
        # The bobbin of which it came by has another joint, far off.
        calls = line(5, (1000, 90, 8, 60), (1000, 90)) + [("run", 10), ("joint", 1, 2)]
        self.assertEqual(last(*calls, ("bad",)), [1, 1])

    def test_of_its_own_bobbin(self):
        calls = line(5, (1000, 90, 8), (1000, 90)) + [("run", 10), ("joint", 0, 2)]
        self.assertEqual(ask(*calls, ("fine",), ("bad",))[-2:], [0, [1, 0]])

    def test_each_that_came_by_counts(self):
        # At 2 and at 9, bobbin 0's, then at 15, bobbin 1's; laid are 16.
        calls = line(5, (1000, 90, 2, 9), (1000, 90, 15)) + [("run", 3), ("run", 13)]
        self.assertEqual(ask(*calls, ("gone",), ("joint", 0, 3), ("fine",), ("joint", 0, 4), ("cut", 0, 4), ("bad",),
                             ("cut", 0, 1), ("bad",))[-8:],
                         [[3, 2, 9, 15], 19, 0, 20, 70, [1, 0], 69, 0])

    def test_rounding_in_a_run_can_bring_them_too_near(self):
        # A metre of strand takes two of wire, so the joint that lay at 12 lies at 11 behind the run.
        calls = line(5, (1001, 90, 13), (1000, 90, 17)) + [("places", 0), ("fine",)]
        self.assertEqual(ask(*calls, ("run", 1), ("places", 0), ("places", 1), ("fine",))[-6:],
                         [[1, 12], 1, 1, [1, 11], [1, 17], 1])
        calls = line(5, (1000, 90, 7), (1001, 90, 13)) + [("places", 1), ("fine",)]
        self.assertEqual(ask(*calls, ("run", 1), ("places", 1), ("fine",), ("bad",), ("run", 1), ("may", 1))[-8:],
                         [[1, 12], 1, 1, [1, 11], 0, [2, 0, 1], -33, 0])

    def test_two_that_came_by_at_one_place_with_a_gap_of_0(self):
        calls = line(0, (1000, 90, 3), (1000, 90, 3)) + [("run", 4), ("joint", 0, 0), ("joint", 1, 0)]
        self.assertEqual(ask(*calls, ("fine",), ("bad",), ("run", 1), ("gone",))[-4:], [1, 0, 5, [4, 3, 3, 4, 4]])

    def test_could_looks_at_them(self):
        # What is left behind the run is 2 metres, or 3: there the joint between would lie.
        for left, answer in ((12, 0), (13, 1)):
            calls = line(5, (1000, 90, 8), (1000, left)) + [("run", 10)]
            self.assertEqual(ask(*calls, ("could", 1, 1), ("look", 1), ("join", 1, 1), ("fine",), ("look", 1))[-5:],
                             [answer, [left - 10, 1000], left - 9, answer, [left - 9, 1000, left - 10]])

    def test_could_of_one_that_ran_empty(self):
        calls = line(5, (1000, 90, 8), (1000, 10)) + [("run", 10)]
        self.assertEqual(ask(*calls, ("could", 1, 1), ("join", 1, 1), ("look", 1), ("fine",))[-4:],
                         [1, 1, [1, 1000], 1])


class Nearest(unittest.TestCase):
    def test_fewer_than_two(self):
        self.assertEqual(last(("begin", 5), ("nearest",)), -33)
        self.assertEqual(last(*line(5, (1000, 90), (1000, 90)), ("nearest",)), -33)
        self.assertEqual(last(*line(5, (1000, 90), (1000, 90, 7)), ("nearest",)), -33)
        self.assertEqual(last(*line(5, (1000, 90, 7)), ("run", 8), ("nearest",)), -33)

    def test_of_one_bobbin_and_of_two(self):
        self.assertEqual(last(*line(5, (1000, 90, 7, 30, 18)), ("nearest",)), 11)
        self.assertEqual(last(*line(5, (1000, 90, 7, 30), (1000, 90, 22)), ("nearest",)), 8)
        self.assertEqual(last(*line(5, (1000, 90, 22), (1000, 90, 7, 30)), ("nearest",)), 8)

    def test_it_is_told_where_all_is_not_fine(self):
        self.assertEqual(last(*line(5, (1000, 90, 7), (1000, 90, 9)), ("nearest",)), 2)

    def test_at_one_place(self):
        self.assertEqual(last(*line(0, (1000, 90, 7), (1000, 90, 7)), ("nearest",)), 0)
        self.assertEqual(last(*line(0, (2000, 90, 6, 7)), ("nearest",)), 0)

    def test_places_in_the_strand_count_not_wire(self):
        self.assertEqual(last(*line(5, (1500, 90, 30, 60)), ("nearest",)), 20)

    def test_one_that_came_by_and_one_that_will_lie(self):
        self.assertEqual(ask(*line(5, (1000, 90, 7, 60), (1000, 90, 13)), ("run", 8), ("nearest",))[-2:], [8, 6])

    def test_two_that_came_by(self):
        calls = line(5, (1000, 90, 7, 60), (1000, 90, 13))
        self.assertEqual(ask(*calls, ("run", 14), ("gone",), ("nearest",))[-3:], [14, [2, 7, 13], 6])
        # One run apart, and the later one of the first bobbin.
        calls = line(5, (1000, 90, 13), (1000, 90, 7, 60))
        self.assertEqual(ask(*calls, ("run", 8), ("run", 6), ("nearest",), ("cut", 1, 90 - 14), ("nearest",))[-3:],
                         [6, 0, 6])

    def test_two_that_came_by_in_an_order_that_falls(self):
        calls = line(5, (1000, 90, 20), (1000, 90, 7, 50)) + [("run", 60)]
        self.assertEqual(ask(*calls, ("gone",), ("nearest",))[-2:], [[3, 20, 7, 50], 13])

    def test_cut_off_it_does_not_count(self):
        self.assertEqual(ask(*line(5, (1000, 90, 1, 3, 30)), ("nearest",), ("cut", 0, 2), ("nearest",), ("cut", 0, 2),
                             ("nearest",))[-5:], [2, 88, 27, 86, -33])


if __name__ == "__main__":
    unittest.main()

"""Promise 3: least, cutleast."""

import itertools
import unittest

from tests.lines import ask, last, line


def fine_behind(calls, way):
    return last(*calls, *[("cut", b, metres) for b, metres in enumerate(way)], ("fine",))


class Least(unittest.TestCase):
    def test_nothing_to_cut(self):
        self.assertEqual(last(*line(5, (1000, 90, 10, 15)), ("least",)), [0, 0])
        self.assertEqual(last(*line(5, (1000, 90), (1000, 0), (1000, 9, 8)), ("least",)), [0, 0, 0, 0])
        self.assertEqual(last(*line(0, (1000, 90, 10), (1000, 90, 10)), ("least",)), [0, 0, 0])

    def test_no_bobbins(self):
        self.assertEqual(ask(("begin", 10000), ("least",), ("cutleast",)), [0, 0, 0])

    def test_one_is_moved_away(self):
        self.assertEqual(last(*line(5, (1000, 90, 20), (1000, 90, 17)), ("least",)), [2, 0, 2])
        self.assertEqual(last(*line(5, (1000, 90, 17), (1000, 90, 20)), ("least",)), [2, 2, 0])

    def test_a_joint_is_cut_off(self):
        self.assertEqual(last(*line(50, (1000, 90, 2), (1000, 90, 20)), ("least",)), [3, 3, 0])
        self.assertEqual(last(*line(50, (1000, 90, 0), (1000, 90, 20)), ("least",)), [1, 1, 0])
        self.assertEqual(last(*line(50, (1000, 90, 20, 7)), ("least",)), [8, 8])

    def test_of_like_ones_less_of_the_first_that_differs(self):
        self.assertEqual(last(*line(3, (1000, 90, 20), (1000, 90, 20)), ("least",)), [3, 0, 3])
        self.assertEqual(last(*line(3, (1000, 90, 20), (1000, 90, 50), (1000, 90, 20)), ("least",)), [3, 0, 0, 3])
        self.assertEqual(last(*line(2, (1000, 90, 20), (1000, 90, 20), (1000, 90, 20)), ("least",)), [6, 0, 2, 4])

    def test_less_together_comes_ahead_of_less_of_the_first(self):
        self.assertEqual(last(*line(5, (1000, 90, 18), (1000, 90, 20)), ("least",)), [3, 3, 0])

    def test_no_more_than_8_of_a_bobbin(self):
        self.assertEqual(last(*line(8, (1000, 90, 20), (1000, 90, 20)), ("least",)), [8, 0, 8])
        self.assertEqual(last(*line(9, (1000, 90, 20), (1000, 90, 20)), ("least",)), -33)
        self.assertEqual(last(*line(50, (1000, 90, 20, 8)), ("least",)), -33)

    def test_no_more_than_it_has(self):
        # A metre that is there cuts its joint off; an empty bobbin gives none.
        self.assertEqual(last(*line(50, (1000, 1, 0), (1000, 0), (1000, 90, 20)), ("least",)), [1, 1, 0, 0])
        self.assertEqual(last(*line(50, (1000, 8, 7), (1000, 90, 20)), ("least",)), [8, 8, 0])
        self.assertEqual(last(*line(9, (1000, 0), (1000, 90, 20), (1000, 90, 20)), ("least",)), -33)

    def test_all_32_metres(self):
        # Bobbin 0's far joint can't be cut off, so every near one must go.
        self.assertEqual(last(*line(10000, (1000, 90, 7, 50), *[(1000, 8, 7)] * 3), ("least",)), [32, 8, 8, 8, 8])
        self.assertEqual(last(*line(10000, (1000, 90, 7, 50), *[(1000, 9, 8)] * 3), ("least",)), -33)

    def test_lays_differ(self):
        # 17 metres of a lay of 2,000 lie at 8, as do 8 of 1,000: two metres of wire move that joint by one.
        self.assertEqual(last(*line(2, (1000, 90, 8), (2000, 90, 17)), ("least",)), [2, 2, 0])
        self.assertEqual(last(*line(1, (1000, 90, 8), (2000, 90, 17)), ("least",)), [1, 1, 0])
        self.assertEqual(last(*line(1, (1000, 90, 8), (2000, 90, 16)), ("least",)), [1, 0, 1])

    def test_a_cut_that_makes_others_bad(self):
        # Cut by 3, bobbin 1's joint comes to lie a metre from bobbin 2's, which must move on too.
        self.assertEqual(last(*line(3, (1000, 90, 20), (1000, 90, 20), (1000, 90, 16)), ("least",)), [5, 0, 3, 2])

    def test_it_changes_nothing(self):
        calls = line(5, (1000, 90, 20), (1000, 90, 17))
        self.assertEqual(ask(*calls, ("least",), ("least",), ("cut", 0, 0), ("cut", 1, 0), ("joint", 1, 17),
                             ("fine",))[5:], [[2, 0, 2], [2, 0, 2], 90, 90, -17, 0])

    def test_whatever_less_is_cut_off_is_not_fine(self):
        for calls in (line(3, (1000, 90, 20), (1000, 90, 20), (1000, 90, 16)),
                      line(4, (1100, 60, 11, 20, 33), (1900, 60, 25, 40), (1500, 4, 2)),
                      line(3, (2000, 60, 11), (1900, 60, 12), (1500, 60, 9)),
                      line(4, (1200, 60, 15), (1500, 60, 20), (1500, 60, 33), (1500, 3, 2))):
            found = last(*calls, ("least",))
            self.assertGreater(found[0], 0)
            self.assertEqual(found[0], sum(found[1:]))
            self.assertEqual(fine_behind(calls, found[1:]), 1)
            for way in itertools.product(*[range(min(found[0], 8) + 1)] * (len(found) - 1)):
                if sum(way) < found[0] or (sum(way) == found[0] and list(way) < found[1:]):
                    self.assertNotEqual(fine_behind(calls, way), 1, way)

    def test_told_there_is_no_way_there_is_none(self):
        calls = line(7, (1000, 90, 20), (1300, 7, 6), (1000, 90, 20, 40, 44))
        self.assertEqual(last(*calls, ("least",)), -33)
        for way in itertools.product(range(9), range(8), range(9)):
            self.assertEqual(fine_behind(calls, way), 0)


class CutLeast(unittest.TestCase):
    def test_it_is_cut_off(self):
        calls = line(3, (1000, 90, 20), (1000, 80, 20), (1000, 70, 16))
        self.assertEqual(ask(*calls, ("cutleast",), ("fine",), ("bad",), ("cut", 0, 0), ("cut", 1, 0), ("cut", 2, 0),
                             ("joint", 0, 20), ("joint", 1, 17), ("joint", 2, 14), ("least",), ("cutleast",))[7:],
                         [5, 1, 0, 90, 77, 68, -17, -17, -17, [0, 0, 0, 0], 0])

    def test_joints_in_it_go(self):
        calls = line(50, (1000, 90, 2, 60), (1000, 90, 5))
        self.assertEqual(ask(*calls, ("cutleast",), ("joint", 0, 57), ("joint", 0, 2), ("cut", 0, 0))[6:],
                         [3, -17, 2, 87])

    def test_nothing_to_cut(self):
        self.assertEqual(ask(*line(5, (1000, 90, 20)), ("cutleast",), ("cut", 0, 0), ("joint", 0, 20))[3:],
                         [0, 90, -17])

    def test_no_way_changes_nothing(self):
        calls = line(9, (1000, 90, 20), (1000, 80, 20))
        self.assertEqual(ask(*calls, ("cutleast",), ("cut", 0, 0), ("cut", 1, 0), ("joint", 0, 20), ("joint", 1, 20),
                             ("fine",), ("bad",))[5:], [-33, 90, 80, -17, -17, 0, [2, 0, 1]])

    def test_it_can_empty_a_bobbin(self):
        calls = line(50, (1000, 3, 2), (1000, 90, 20))
        self.assertEqual(ask(*calls, ("cutleast",), ("cut", 0, 0), ("cut", 0, 1), ("join", 0, 4), ("fine",))[5:],
                         [3, 0, -12, 4, 1])


class BesideWhatCameBy(unittest.TestCase):
    # At 8 a joint came by, and 10 metres are laid; joints that are put in behind that lie at 10 and more.
    RAN = line(5, (1000, 90, 8), (1000, 90)) + [("run", 10)]

    def test_a_joint_near_one_that_came_by(self):
        # Nearer to the end it only lies nearer to what came by, so it must go.
        self.assertEqual(ask(*self.RAN, ("joint", 0, 2), ("joint", 0, 40), ("joint", 1, 30), ("fine",), ("least",),
                             ("cutleast",), ("fine",), ("least",), ("places", 0), ("sums",), ("look", 0))[5:],
                         [12, 50, 40, 0, [3, 3, 0], 3, 1, [0, 0, 0], [1, 47], [10, 5, 2, 3, 1], [77, 1000, 37]])

    def test_just_gap_from_one_that_came_by(self):
        self.assertEqual(last(*self.RAN, ("joint", 1, 3), ("least",)), [0, 0, 0])
        self.assertEqual(last(*self.RAN, ("joint", 1, 2), ("least",)), [3, 0, 3])

    def test_what_is_cut_must_not_bring_another_near_to_it(self):
        # Cut by 5, bobbin 1's joint would be far enough from bobbin 0's, but 3 from the one that came by.
        calls = self.RAN + [("joint", 0, 6), ("joint", 1, 6)]
        self.assertEqual(ask(*calls, ("least",), ("cutleast",), ("look", 0), ("look", 1), ("fine",))[7:],
                         [[7, 0, 7], 7, [80, 1000, 6], [73, 1000], 1])

    def test_no_way(self):
        calls = line(30, (1000, 90, 9)) + [("run", 10), ("joint", 0, 20)]
        self.assertEqual(ask(*calls, ("least",), ("cutleast",), ("sums",), ("look", 0))[5:],
                         [-33, -33, [10, 30, 1, 0, 1], [80, 1000, 20]])


if __name__ == "__main__":
    unittest.main()

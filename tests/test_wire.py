"""Promise 1: begin, bobbin, joint, join, could, cut."""

import unittest

from laidstrands.bobbin import Bobbin
from laidstrands.strand import answers
from tests.lines import TOP, ask, last, line, parted

BEGUN = ("begin", 5)
FOUR_JOINTS = (BEGUN, ("bobbin", 1000, 100), ("joint", 0, 10), ("joint", 0, 20), ("joint", 0, 30), ("joint", 0, 40))


class Begin(unittest.TestCase):
    def test_bounds_of_gap(self):
        for gap, answer in ((0, 0), (1, 0), (9999, 0), (10000, 0), (10001, -22), (TOP, -22)):
            self.assertEqual(ask(("begin", gap)), [answer])

    def test_all_else_ahead_of_it_is_refused(self):
        # However many numbers a call has, and whatever they are, it's -11, ahead of -2 and -22.
        for call in ([1, 1000, 5], [1, 0, TOP], [2, 0, 0], [3, 0, 0], [4, 9, TOP], [5, 0, 0], [6], [7], [8], [9],
                     [10], [11, 0], [12, TOP], [13], [14, 0], [15], [16], [17, 0, 0], [18, 0], [19]):
            self.assertEqual(answers(call + [0, 7, 8]), [1, -11, 1, 0, 1, 1], call)

    def test_a_refused_begin_does_not_begin(self):
        self.assertEqual(ask(("begin", 10001), ("fine",), ("bobbin", 1000, 1), BEGUN, ("bobbin", 1000, 1)),
                         [-22, -11, -11, 0, 0])

    def test_again_it_leaves_nothing(self):
        self.assertEqual(ask(*FOUR_JOINTS, ("joint", 0, 11), ("begin", 0), ("cut", 0, 0), ("least",),
                             ("bobbin", 1500, 9), ("joint", 0, 8))[6:], [-28, 0, -2, 0, 0, 5])

    def test_again_it_sets_the_gap(self):
        self.assertEqual(ask(("begin", 0), ("bobbin", 1000, 9), ("joint", 0, 1), ("joint", 0, 2), ("fine",),
                             ("begin", 2), ("bobbin", 1000, 9), ("joint", 0, 1), ("joint", 0, 2), ("fine",)),
                         [0, 0, 1, 2, 1, 0, 0, 1, 2, 0])

    def test_a_refused_begin_changes_nothing(self):
        self.assertEqual(ask(*FOUR_JOINTS, ("begin", TOP), ("cut", 0, 0), ("joint", 0, 20), ("joint", 0, 21),
                             ("fine",))[6:], [-22, 100, -17, -28, 1])

    def test_again_behind_runs_and_cuts(self):
        calls = line(5, (1000, 100, 3, 20), (1500, 100)) + [("cut", 1, 4), ("run", 7), ("run", 2)]
        self.assertEqual(ask(*calls, ("sums",), ("gone",), ("begin", 6), ("sums",), ("gone",), ("lasts",), ("next",),
                             ("nearest",), ("look", 0), ("bobbin", 1000, 50), ("joint", 0, 4), ("fine",), ("run", 5),
                             ("gone",), ("sums",))[8:],
                         [[9, 5, 2, 4, 1], [1, 3], 0, [0, 6, 0, 0, 0], 0, 0, -33, -33, -2, 0, 4, 1, 5, [1, 4],
                          [5, 6, 1, 0, 1]])

    def test_refused_behind_runs_and_cuts_it_changes_nothing(self):
        calls = line(5, (1000, 100, 3, 20), (1500, 100)) + [("cut", 1, 4), ("run", 7)]
        self.assertEqual(ask(*calls, ("begin", 10001), ("sums",), ("gone",), ("look", 0), ("look", 1))[7:],
                         [-22, [7, 5, 2, 4, 1], [1, 3], [93, 1000, 13], [85, 1500]])


class Bobbins(unittest.TestCase):
    def test_bounds_of_lay(self):
        for lay, answer in ((0, -22), (999, -22), (1000, 0), (1001, 0), (1999, 0), (2000, 0), (2001, -22), (TOP, -22)):
            self.assertEqual(last(BEGUN, ("bobbin", lay, 10)), answer)

    def test_bounds_of_left(self):
        for left, answer in ((0, 0), (1, 0), (99999, 0), (100000, 0), (100001, -22), (TOP, -22)):
            self.assertEqual(last(BEGUN, ("bobbin", 1000, left)), answer)

    def test_four_and_no_more(self):
        four = [("bobbin", 1000, k) for k in range(4)]
        self.assertEqual(ask(BEGUN, *four, ("bobbin", 1000, 4), ("cut", 3, 0), ("cut", 4, 0)),
                         [0, 0, 1, 2, 3, -28, 3, -2])

    def test_bounds_come_ahead_of_full(self):
        four = [("bobbin", 1000, 1)] * 4
        self.assertEqual(ask(BEGUN, *four, ("bobbin", 999, 1), ("bobbin", 1000, 100001), ("bobbin", 1000, 1))[5:],
                         [-22, -22, -28])

    def test_a_refusal_adds_none(self):
        self.assertEqual(ask(BEGUN, ("bobbin", 2001, 1), ("cut", 0, 0), ("bobbin", 1000, 1)), [0, -22, -2, 0])

    def test_it_has_the_wire_and_no_joints(self):
        self.assertEqual(ask(BEGUN, ("bobbin", 1000, 7), ("cut", 0, 0), *[("joint", 0, k) for k in range(4)])[2:],
                         [7, 0, 1, 2, 3])


class NoSuchBobbin(unittest.TestCase):
    def test_it_comes_first(self):
        for b in (1, 2, 4, TOP):
            for name in ("joint", "join", "could", "cut"):
                for n in (0, 1, 100001, TOP):
                    self.assertEqual(ask(BEGUN, ("bobbin", 1000, 10), (name, b, n), ("cut", 0, 0)), [0, 0, -2, 10])

    def test_without_bobbins(self):
        for name in ("joint", "join", "could", "cut"):
            self.assertEqual(last(BEGUN, (name, 0, 0)), -2)


class Joint(unittest.TestCase):
    def test_where_it_will_lie_is_rounded_down(self):
        for lay, at, place in ((1000, 0, 0), (1000, 77, 77), (1000, 99999, 99999), (1500, 1, 0), (1500, 2, 1),
                               (1500, 3, 2), (2000, 1, 0), (2000, 99999, 49999), (1999, 2, 1), (1001, 1001, 1000),
                               (1001, 1000, 999), (1234, 56789, 46020)):
            self.assertEqual(last(BEGUN, ("bobbin", lay, 100000), ("joint", 0, at)), place)

    def test_bounds_of_at(self):
        for left, at, answer in ((1, 0, 0), (1, 1, -22), (10, 9, 9), (10, 10, -22), (10, TOP, -22), (0, 0, -22)):
            self.assertEqual(last(BEGUN, ("bobbin", 1000, left), ("joint", 0, at)), answer)

    def test_each_place_once(self):
        self.assertEqual(ask(BEGUN, ("bobbin", 1000, 9), ("bobbin", 1000, 9), ("joint", 0, 4), ("joint", 0, 4),
                             ("joint", 1, 4), ("joint", 0, 5))[3:], [4, -17, 4, 5])

    def test_two_at_one_place_in_the_strand(self):
        # They're a metre of wire apart, so neither is refused.
        self.assertEqual(ask(("begin", 1), ("bobbin", 2000, 9), ("joint", 0, 4), ("joint", 0, 5), ("fine",)),
                         [0, 0, 2, 2, 0])

    def test_four_and_no_more(self):
        self.assertEqual(ask(*FOUR_JOINTS, ("joint", 0, 50), ("cut", 0, 11), ("joint", 0, 50))[5:], [40, -28, 89, 50])

    def test_joints_are_kept_rising(self):
        bobbin = Bobbin(1000, 50)
        for at in (30, 10, 40, 20):
            bobbin.add_joint(at)
        self.assertEqual(bobbin.joints, [10, 20, 30, 40])

    def test_which_refusal_comes_first(self):
        self.assertEqual(ask(*FOUR_JOINTS, ("joint", 0, 100), ("joint", 0, 30), ("joint", 0, 31))[6:],
                         [-22, -17, -28])

    def test_a_refusal_adds_none(self):
        self.assertEqual(ask(("begin", 1), ("bobbin", 2000, 9), ("joint", 0, 4), ("joint", 0, 4), ("joint", 0, 9),
                             ("fine",), ("cut", 0, 0), *[("joint", 0, k) for k in (0, 2, 6, 8)])[3:],
                         [-17, -22, 1, 9, 0, 1, 3, -28])

    def test_what_is_laid_comes_ahead_of_it(self):
        self.assertEqual(ask(*line(0, (1500, 100)), ("run", 30), ("joint", 0, 8), ("joint", 0, 55), ("joint", 0, 54),
                             ("look", 0))[2:], [30, 35, -22, 66, [55, 1500, 8, 54]])

    def test_there_is_room_for_what_came_by(self):
        self.assertEqual(ask(*FOUR_JOINTS, ("run", 21), ("joint", 0, 30), ("joint", 0, 31), ("joint", 0, 32),
                             ("look", 0))[6:], [21, 51, 52, -28, [79, 1000, 9, 19, 30, 31]])


class Join(unittest.TestCase):
    def test_more_wire_with_a_joint_between(self):
        self.assertEqual(ask(BEGUN, ("bobbin", 1000, 10), ("join", 0, 7), ("joint", 0, 10), ("joint", 0, 16),
                             ("joint", 0, 17)), [0, 0, 17, -17, 16, -22])

    def test_an_empty_one_gets_no_joint(self):
        self.assertEqual(ask(BEGUN, ("bobbin", 1000, 0), ("join", 0, 7), ("joint", 0, 0)), [0, 0, 7, 0])

    def test_one_that_was_cut_empty_gets_no_joint(self):
        self.assertEqual(ask(*FOUR_JOINTS, ("cut", 0, 100), ("join", 0, 50), *[("joint", 0, k) for k in (0, 9, 18, 27)],
                             ("join", 0, 1))[6:], [0, 50, 0, 9, 18, 27, -28])

    def test_bounds_of_n(self):
        for left, n, answer in ((10, 0, -22), (10, 1, 11), (10, 99990, 100000), (10, 99991, -22), (10, TOP, -22),
                                (0, 0, -22), (0, 100000, 100000), (0, 100001, -22), (100000, 1, -22),
                                (99999, 1, 100000)):
            self.assertEqual(last(BEGUN, ("bobbin", 1000, left), ("join", 0, n)), answer)

    def test_four_joints_and_no_more(self):
        self.assertEqual(ask(BEGUN, ("bobbin", 1000, 1), *[("join", 0, 1)] * 5, ("cut", 0, 0)),
                         [0, 0, 2, 3, 4, 5, -28, 5])

    def test_bounds_come_ahead_of_full(self):
        self.assertEqual(ask(*FOUR_JOINTS, ("join", 0, 0), ("join", 0, 99901), ("join", 0, 99900))[6:],
                         [-22, -22, -28])

    def test_a_refusal_changes_nothing(self):
        self.assertEqual(ask(BEGUN, ("bobbin", 1000, 10), ("join", 0, 0), ("join", 0, 99991), ("cut", 0, 0),
                             ("joint", 0, 10), ("join", 0, 2), ("joint", 0, 10))[2:], [-22, -22, 10, -22, 12, -17])

    def test_only_that_bobbin(self):
        self.assertEqual(ask(BEGUN, ("bobbin", 1000, 10), ("bobbin", 1000, 20), ("join", 1, 5), ("cut", 0, 0),
                             ("cut", 1, 0), ("joint", 1, 20), ("joint", 0, 9))[3:], [25, 10, 25, -17, 9])


    def test_one_that_ran_empty_gets_no_joint(self):
        self.assertEqual(ask(*line(5, (1000, 10, 9), (1000, 11)), ("run", 10), ("join", 0, 7), ("join", 1, 7),
                             ("look", 0), ("look", 1))[4:], [10, 7, 8, [7, 1000], [8, 1000, 1]])

    def test_there_is_room_for_what_came_by(self):
        self.assertEqual(ask(*FOUR_JOINTS, ("join", 0, 5), ("run", 11), ("join", 0, 5), ("join", 0, 5), ("look", 0),
                             ("places", 0))[6:],
                         [-28, 11, 94, -28, [94, 1000, 9, 19, 29, 89], [4, 20, 30, 40, 100]])


class Could(unittest.TestCase):
    def test_the_joint_between_counts(self):
        # The joint would lie at 10; the other lies gap from it, or a metre less.
        for at, answer in ((5, 1), (6, 0), (9, 0), (0, 1)):
            self.assertEqual(last(BEGUN, ("bobbin", 1000, 10), ("joint", 0, at), ("could", 0, 3)), answer)

    def test_beside_another_bobbin(self):
        # 15 metres of a lay of 1,500: the joint between would lie at 10 in the strand.
        for at, answer in ((5, 1), (6, 0), (10, 0), (14, 0), (15, 1)):
            self.assertEqual(last(BEGUN, ("bobbin", 1500, 15), ("bobbin", 1000, 90), ("joint", 1, at),
                                  ("could", 0, 3)), answer)

    def test_nothing_is_joined(self):
        self.assertEqual(ask(BEGUN, ("bobbin", 1000, 10), ("could", 0, 3), ("cut", 0, 0), ("joint", 0, 10))[2:],
                         [1, 10, -22])

    def test_refusals_as_of_join(self):
        for left, n, answer in ((10, 0, -22), (10, 1, 1), (10, 99990, 1), (10, 99991, -22), (10, TOP, -22),
                                (0, 0, -22), (0, 100000, 1), (0, 100001, -22), (100000, 1, -22)):
            self.assertEqual(last(BEGUN, ("bobbin", 1000, left), ("could", 0, n)), answer)

    def test_four_joints_are_no_refusal(self):
        self.assertEqual(ask(*FOUR_JOINTS, ("could", 0, 1), ("join", 0, 1), ("could", 0, 0))[6:], [1, -28, -22])

    def test_a_fifth_joint_counts(self):
        self.assertEqual(ask(*FOUR_JOINTS[:2], ("joint", 0, 10), ("joint", 0, 20), ("joint", 0, 30), ("joint", 0, 96),
                             ("fine",), ("could", 0, 1))[6:], [1, 0])

    def test_an_empty_one_gets_no_joint(self):
        near = (("bobbin", 1000, 9), ("joint", 1, 0))
        self.assertEqual(last(BEGUN, ("bobbin", 1000, 0), *near, ("could", 0, 9)), 1)
        self.assertEqual(last(BEGUN, ("bobbin", 1000, 1), *near, ("could", 0, 9)), 0)

    def test_what_is_not_fine_stays_so(self):
        self.assertEqual(last(BEGUN, ("bobbin", 1000, 90), ("bobbin", 1000, 0), ("joint", 0, 1), ("joint", 0, 2),
                              ("could", 1, 9)), 0)


class Cut(unittest.TestCase):
    def test_bounds_of_n(self):
        for n, answer in ((0, 10), (1, 9), (9, 1), (10, 0), (11, -12), (TOP, -12)):
            self.assertEqual(last(BEGUN, ("bobbin", 1000, 10), ("cut", 0, n)), answer)

    def test_an_empty_one(self):
        self.assertEqual(ask(BEGUN, ("bobbin", 1000, 0), ("cut", 0, 0), ("cut", 0, 1))[2:], [0, -12])

    def test_joints_in_it_go_and_others_lie_nearer(self):
        # Of 10, 20, 30, 40 the first goes, the second lies at the very end.
        self.assertEqual(ask(*FOUR_JOINTS, ("cut", 0, 20), ("joint", 0, 10), ("joint", 0, 20), ("joint", 0, 0),
                             ("joint", 0, 30))[6:], [80, -17, -17, -17, 30])

    def test_a_joint_at_the_very_end(self):
        for n, answer in ((0, -17), (1, 0)):
            self.assertEqual(last(BEGUN, ("bobbin", 1000, 9), ("joint", 0, 0), ("cut", 0, n), ("joint", 0, 0)), answer)

    def test_a_joint_in_the_last_metre(self):
        self.assertEqual(ask(BEGUN, ("bobbin", 1000, 9), ("joint", 0, 8), ("cut", 0, 8), ("joint", 0, 0),
                             ("cut", 0, 1), ("cut", 0, 1))[2:], [8, 1, -17, 0, -12])

    def test_a_refusal_changes_nothing(self):
        self.assertEqual(ask(*FOUR_JOINTS, ("cut", 0, 101), ("cut", 0, 0), ("joint", 0, 10), ("joint", 0, 11))[6:],
                         [-12, 100, -17, -28])

    def test_only_that_bobbin(self):
        self.assertEqual(ask(BEGUN, ("bobbin", 1000, 10), ("bobbin", 1000, 20), ("joint", 0, 3), ("joint", 1, 3),
                             ("cut", 1, 2), ("joint", 0, 3), ("joint", 1, 1), ("cut", 0, 0))[5:], [18, -17, -17, 10])

    def test_what_is_cut_off_is_counted(self):
        self.assertEqual(ask(*line(3, (1000, 50, 9), (1000, 50, 9)), ("cut", 0, 51), ("sums",), ("cut", 1, 4),
                             ("cut", 0, 4), ("sums",), ("cutleast",), ("sums",), ("cutleast",), ("sums",))[5:],
                         [-12, [0, 3, 2, 0, 0], 46, 46, [0, 3, 2, 8, 0], 3, [0, 3, 2, 11, 0], 0, [0, 3, 2, 11, 0]])

    def test_what_is_cut_off_is_wire(self):
        # Neither the strand's metres nor what a run takes is counted.
        self.assertEqual(ask(*line(3, (2000, 50, 9)), ("cut", 0, 6), ("run", 5), ("sums",), ("look", 0))[3:],
                         [44, 5, [5, 3, 1, 6, 1], [34, 2000]])


class Interface(unittest.TestCase):
    def test_how_answers_are_written(self):
        self.assertEqual(answers([0, 5, 1, 1000, 100, 1, 1500, 100, 2, 0, 10, 2, 1, 15, 8, 9, 6, 7, 8, 9, 6,
                                  2, 0, 200]),
                         [1, 0, 1, 0, 1, 1, 1, 10, 1, 10, 1, 0, 3, 2, 0, 1, 3, 5, 5, 0, 1, 5, 1, 1, 1, 0,
                          3, 0, 0, 0, 1, -22])
        self.assertEqual(answers([0, 5, 1, 1000, 100, 1, 1500, 100, 2, 0, 10, 2, 1, 30, 10, 12, 11, 11, 11, 13, 14, 1,
                                  15, 16, 17, 1, 3, 18, 1, 19, 14, 0, 18, 0, 11, 0, 17, 0, 100001]),
                         [1, 0, 1, 0, 1, 1, 1, 10, 1, 20, 1, 10, 1, 1, 1, 11, 1, 55, 2, 1, 19, 2, 19, 1, 2, 1, 10, 1, 5,
                          3, 83, 1500, 13, 5, 11, 5, 2, 0, 1, 1, 0, 2, 89, 1000, 1, -22, 1, -22])

    def test_each_argument_at_its_top(self):
        self.assertEqual(ask(BEGUN, ("bobbin", 1000, 10), ("begin", TOP), ("bobbin", TOP, TOP), ("bobbin", TOP, 1),
                             ("bobbin", 1000, TOP), ("joint", 0, TOP), ("join", 0, TOP), ("could", 0, TOP),
                             ("cut", 0, TOP), ("joint", TOP, TOP), ("join", TOP, TOP), ("could", TOP, TOP),
                             ("cut", TOP, TOP), ("run", TOP), ("may", TOP), ("places", TOP), ("wire", 0, TOP),
                             ("wire", TOP, TOP), ("look", TOP), ("look", 0), ("sums",))[2:],
                         [-22, -22, -22, -22, -22, -22, -22, -12, -2, -2, -2, -2, -22, -22, -2, -22, -2, -2,
                          [10, 1000], [0, 5, 1, 0, 0]])

    def test_the_list_handed_in_stays(self):
        calls = [0, 5, 1, 1000, 100, 2, 0, 10, 2, 0, 11, 3, 0, 9, 5, 0, 1, 4, 0, 3, 6, 7, 8, 9,
                 10, 11, 15, 12, 3, 13, 14, 0, 15, 16, 17, 0, 4, 18, 0, 19, 11, 0]
        before = list(calls)
        answers(calls)
        self.assertEqual(calls, before)

    def test_nothing_is_kept(self):
        calls = [0, 5, 1, 1000, 100, 2, 0, 10, 2, 0, 11, 6, 7, 8, 11, 9, 16, 18, 0, 19]
        first = answers(calls)
        first.append(7)
        for call in ([8], [16], [18, 0], [19]):
            self.assertEqual(answers(call), [1, -11])
        self.assertEqual(answers([0, 5, 16, 19]), [1, 0, 1, 0, 5, 0, 5, 0, 0, 0])
        self.assertEqual(answers(calls), first[:-1])

    def test_only_whole_numbers_come_back(self):
        given = answers([0, 5, 1, 1000, 100, 8, 9, 4, 0, 3, 6, 7, 2, 0, 3, 2, 0, 4, 8, 9, 4, 0, 3, 10, 12, 1, 11, 1, 7,
                         12, 1, 11, 20, 13, 14, 0, 15, 16, 17, 0, 3, 18, 0, 19])
        self.assertIs(type(given), list)
        self.assertEqual({type(number) for number in given}, {int})

    def test_eighty_calls(self):
        given = answers([0, 5] + [8] * 79)
        self.assertEqual(parted(given), [[0]] + [[1]] * 79)
        given = answers([0, 5, 1, 1000, 100] + [11, 1] * 78)
        self.assertEqual(parted(given), [[0], [0]] + [[k] for k in range(1, 79)])


if __name__ == "__main__":
    unittest.main()

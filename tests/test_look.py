"""Promise 4: places, next, gone, look, sums."""

import unittest

from tests.lines import TOP, ask, last, line, state


class NoSuchBobbin(unittest.TestCase):
    def test_without_bobbins(self):
        self.assertEqual(ask(("begin", 5), ("places", 0), ("look", 0), ("wire", 0, 0))[1:], [-2, -2, -2])

    def test_behind_the_last(self):
        calls = line(5, (1000, 90), (1000, 90))
        for b, found in ((1, [0, [90, 1000], 7]), (2, [-2, -2, -2]), (4, [-2, -2, -2]), (TOP, [-2, -2, -2])):
            self.assertEqual(ask(*calls, ("places", b), ("look", b), ("wire", b, 7))[3:], found)


class Places(unittest.TestCase):
    def test_none(self):
        self.assertEqual(last(*line(5, (1000, 90)), ("places", 0)), 0)
        self.assertEqual(last(*line(5, (1000, 0)), ("places", 0)), 0)

    def test_as_they_lie_however_they_came(self):
        self.assertEqual(last(*line(5, (1500, 90, 40, 0, 80, 13)), ("places", 0)), [4, 0, 8, 26, 53])

    def test_of_that_bobbin_alone(self):
        calls = line(5, (1000, 90, 40), (2000, 90, 41, 7))
        self.assertEqual(ask(*calls, ("places", 0), ("places", 1))[6:], [[1, 40], [2, 3, 20]])

    def test_two_joints_at_one_place(self):
        self.assertEqual(last(*line(0, (2000, 90, 40, 41)), ("places", 0)), [2, 20, 20])

    def test_behind_a_run_a_cut_and_a_join(self):
        self.assertEqual(ask(*line(5, (1500, 90, 2, 40)), ("run", 4), ("places", 0), ("cut", 0, 1), ("places", 0),
                             ("join", 0, 6), ("places", 0))[4:], [4, [1, 26], 83, [1, 26], 89, [2, 26, 59]])

    def test_as_joint_told(self):
        for lay in (1000, 1234, 2000):
            calls = line(5, (lay, 90)) + [("run", 3), ("joint", 0, 17)]
            place, places = ask(*calls, ("places", 0))[-2:]
            self.assertEqual(places, [1, place])


class Next(unittest.TestCase):
    def test_none_will_lie(self):
        self.assertEqual(last(("begin", 5), ("next",)), -33)
        self.assertEqual(last(*line(5, (1000, 90), (1000, 0)), ("next",)), -33)
        self.assertEqual(ask(*line(5, (1000, 90, 4)), ("next",), ("run", 5), ("next",))[3:], [[4, 0], 5, -33])

    def test_the_first_of_all_bobbins(self):
        self.assertEqual(last(*line(5, (1000, 90, 40), (1000, 90, 30, 7), (1000, 90, 20)), ("next",)), [7, 1])
        self.assertEqual(last(*line(5, (1000, 90), (1000, 90), (1000, 90, 20)), ("next",)), [20, 2])

    def test_the_place_in_the_strand_decides(self):
        self.assertEqual(last(*line(5, (1000, 90, 12), (2000, 90, 20)), ("next",)), [10, 1])

    def test_of_like_ones_the_first_bobbins(self):
        self.assertEqual(last(*line(0, (1000, 90, 40), (1000, 90, 7), (1000, 90, 7)), ("next",)), [7, 1])
        # A metre of wire less, but one place in the strand.
        self.assertEqual(last(*line(0, (2000, 90, 15), (2000, 90, 14), (1000, 90, 7)), ("next",)), [7, 0])

    def test_behind_runs_and_cuts(self):
        calls = line(5, (1000, 90, 3, 40), (1000, 90, 30))
        self.assertEqual(ask(*calls, ("next",), ("run", 4), ("next",), ("cut", 0, 20), ("next",), ("cut", 1, 27),
                             ("next",))[6:], [[3, 0], 4, [30, 1], 66, [20, 0], 59, [20, 0]])

    def test_at_the_very_end(self):
        self.assertEqual(last(*line(5, (1000, 90), (1000, 90, 0)), ("next",)), [0, 1])


class Gone(unittest.TestCase):
    def test_none(self):
        self.assertEqual(last(("begin", 5), ("gone",)), 0)
        self.assertEqual(ask(*line(5, (1000, 90, 7)), ("gone",), ("run", 7), ("gone",))[3:], [0, 7, 0])

    def test_bobbin_by_bobbin_within_a_run(self):
        calls = line(2, (1000, 90, 20, 30), (1000, 90, 15, 5), (1500, 90, 36, 12))
        self.assertEqual(last(*calls, ("run", 40), ("gone",)), [6, 20, 30, 5, 15, 8, 24])

    def test_run_behind_run(self):
        calls = line(2, (1000, 90, 20, 30), (1000, 90, 15, 5), (1000, 90, 27, 12))
        self.assertEqual(ask(*calls, ("run", 13), ("gone",), ("run", 10), ("gone",), ("run", 8), ("gone",))[10:],
                         [13, [2, 5, 12], 23, [4, 5, 12, 20, 15], 31, [6, 5, 12, 20, 15, 30, 27]])

    def test_what_is_cut_off_did_not_come_by(self):
        self.assertEqual(ask(*line(5, (1000, 90, 3, 20)), ("cut", 0, 10), ("run", 30), ("gone",), ("sums",))[4:],
                         [80, 30, [1, 10], [30, 5, 1, 10, 1]])

    def test_what_came_by_stays_when_the_bobbin_is_cut(self):
        self.assertEqual(ask(*line(5, (1000, 90, 3)), ("run", 30), ("cut", 0, 60), ("gone",))[3:], [30, 0, [1, 3]])

    def test_joints_of_joins(self):
        calls = line(1, (1000, 1)) + [("join", 0, 1)] * 4 + [("run", 5), ("join", 0, 9), ("join", 0, 9), ("run", 18)]
        self.assertEqual(ask(*calls, ("gone",), ("look", 0))[-2:], [[5, 1, 2, 3, 4, 14], [0, 1000]])

    def test_many(self):
        # A joint for each two calls, all of them told.
        calls = [("begin", 1), ("bobbin", 1000, 1)] + [("join", 0, 1), ("run", 1)] * 38
        self.assertEqual(last(*calls, ("run", 1), ("gone",)), [38] + list(range(1, 39)))


class Look(unittest.TestCase):
    def test_left_lay_and_joints_rising(self):
        self.assertEqual(last(*line(5, (1500, 90, 40, 0, 80, 13)), ("look", 0)), [90, 1500, 0, 13, 40, 80])
        self.assertEqual(ask(*line(5, (1000, 0), (2000, 100000)), ("look", 0), ("look", 1))[3:],
                         [[0, 1000], [100000, 2000]])

    def test_joints_are_told_in_wire_behind_runs_too(self):
        self.assertEqual(ask(*line(5, (1500, 90, 40)), ("run", 4), ("look", 0), ("join", 0, 6), ("look", 0),
                             ("cut", 0, 34), ("look", 0), ("cut", 0, 1), ("look", 0))[3:],
                         [4, [84, 1500, 34], 90, [90, 1500, 34, 84], 56, [56, 1500, 0, 50], 55, [55, 1500, 49]])

    def test_an_empty_one_that_is_joined_to(self):
        self.assertEqual(ask(*line(5, (1000, 5, 4)), ("run", 5), ("look", 0), ("join", 0, 3), ("look", 0),
                             ("join", 0, 3), ("look", 0), ("places", 0))[3:],
                         [5, [0, 1000], 3, [3, 1000], 6, [6, 1000, 3], [1, 8]])


class Sums(unittest.TestCase):
    def test_of_a_new_one(self):
        self.assertEqual(ask(("begin", 0), ("sums",), ("begin", 10000), ("sums",)),
                         [0, [0, 0, 0, 0, 0], 0, [0, 10000, 0, 0, 0]])

    def test_all_of_them(self):
        calls = line(3, (1000, 90, 3, 20, 30), (1000, 90, 9), (1500, 90))
        self.assertEqual(ask(*calls, ("sums",), ("cut", 2, 4), ("sums",), ("run", 12), ("sums",), ("joint", 1, 8),
                             ("cutleast",), ("sums",), ("run", 20), ("sums",))[8:],
                         [[0, 3, 3, 0, 0], 86, [0, 3, 3, 4, 0], 12, [12, 3, 3, 4, 2], 20, 3, [12, 3, 3, 7, 2],
                          32, [32, 3, 3, 7, 5]])


class Unchanged(unittest.TestCase):
    def test_asking_changes_nothing(self):
        calls = line(5, (1000, 90, 3, 20), (1500, 90, 40)) + [("run", 4), ("cut", 1, 1)]
        asked = (("nearest",), ("may", 1), ("may", 99), ("may", 0), ("lasts",), ("places", 0), ("places", 2), ("next",),
                 ("gone",), ("wire", 1, 5), ("wire", 1, TOP), ("look", 1), ("look", 2), ("sums",), ("could", 0, 4),
                 ("fine",), ("bad",), ("least",))
        found = ask(*calls, *state(2), *asked, *state(2), *asked)
        once = found[len(calls):len(calls) + 4 + len(asked)]
        self.assertEqual(once, found[len(calls) + 4 + len(asked):])
        self.assertEqual(once, [[4, 5, 2, 1, 1], [1, 3], [86, 1000, 16], [83, 1500, 33], 6, 1, 0, -22, 55, [1, 20], -2,
                                [20, 0], [1, 3], 8, -22, [83, 1500, 33], -2, [4, 5, 2, 1, 1], 1, 1, 0, [0, 0, 0]])

    def test_refusals_change_nothing(self):
        calls = line(5, (1000, 90, 3, 20, 30, 50), (1500, 90, 60)) + [("run", 1), ("cut", 1, 1)]
        refused = (("begin", 10001), ("bobbin", 999, 1), ("joint", 0, 89), ("joint", 0, 2), ("joint", 0, 1),
                   ("join", 0, 0), ("join", 0, 4), ("could", 0, 0), ("cut", 0, 90), ("run", 0), ("run", 60),
                   ("run", 100001), ("may", 0), ("places", 2), ("wire", 0, 100001), ("look", 2))
        found = ask(*calls, *state(2), *refused, *state(2))
        self.assertEqual(found[-4:], found[len(calls):][:4])
        self.assertEqual(found[-4:], [[1, 5, 2, 1, 0], 0, [89, 1000, 2, 19, 29, 49], [87, 1500, 57]])
        self.assertEqual(found[len(calls) + 4:-4], [-22, -22, -22, -17, -28, -22, -28, -22, -12, -22, -12, -22, -22, -2,
                                                    -22, -2])


if __name__ == "__main__":
    unittest.main()

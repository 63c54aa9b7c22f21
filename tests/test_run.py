"""Promise 4: run, may, lasts, wire."""

import unittest

from tests.lines import TOP, ask, last, line, state

# The joints lie at 7 and 9 in the strand, which is nearer than the gap.
NOT_FINE = line(5, (1000, 90, 7), (1000, 50, 9))


def asked_of_run(calls, n):
    """What may and run answer, and whether anything but what a run changes is another behind them."""
    count = sum(1 for call in calls if call[0] == "bobbin")
    found = ask(*calls, *state(count), ("may", n), *state(count), ("run", n), *state(count))
    size = len(state(count))
    ahead, may, between, run, behind = (found[len(calls):][:size], found[-2 * size - 2], found[-2 * size - 1:][:size],
                                        found[-size - 1], found[-size:])
    assert ahead == between
    return may, run, ahead == behind


class Run(unittest.TestCase):
    def test_what_is_laid_is_told(self):
        self.assertEqual(ask(*line(5, (1000, 90)), ("run", 4), ("run", 1), ("run", 30), ("sums",))[2:],
                         [4, 5, 35, [35, 5, 1, 0, 0]])

    def test_each_bobbin_gives_what_its_lay_takes(self):
        self.assertEqual(ask(*line(5, (1000, 90), (1500, 90), (1001, 90), (2000, 90)), ("run", 3), ("look", 0),
                             ("look", 1), ("look", 2), ("look", 3), ("run", 2), ("look", 0), ("look", 1), ("look", 2),
                             ("look", 3))[5:],
                         [3, [87, 1000], [85, 1500], [86, 1001], [84, 2000],
                          5, [85, 1000], [82, 1500], [83, 1001], [80, 2000]])

    def test_joints_in_the_wire_that_it_takes_come_by(self):
        # 3 metres take 5 of wire: the joint at 4 comes by, the one at 5 lies at the very end behind the run.
        self.assertEqual(ask(*line(0, (1500, 90, 4, 5, 20)), ("run", 3), ("gone",), ("look", 0), ("places", 0))[5:],
                         [3, [1, 2], [85, 1500, 0, 15], [2, 3, 13]])

    def test_a_joint_at_the_very_end(self):
        self.assertEqual(ask(*line(5, (1000, 90, 0)), ("run", 1), ("gone",), ("look", 0))[3:],
                         [1, [1, 0], [89, 1000]])
        self.assertEqual(ask(*line(5, (1000, 90, 7)), ("run", 7), ("gone",), ("look", 0), ("next",), ("run", 1),
                             ("gone",))[3:], [7, 0, [83, 1000, 0], [7, 0], 8, [1, 7]])

    def test_what_came_by_has_the_place_from_ahead_of_the_run(self):
        self.assertEqual(ask(*line(5, (1500, 90, 20)), ("places", 0), ("run", 15), ("gone",), ("sums",))[3:],
                         [[1, 13], 15, [1, 13], [15, 5, 1, 0, 1]])
        self.assertEqual(ask(*line(5, (1500, 90, 20)), ("run", 10), ("places", 0), ("run", 5), ("gone",))[3:],
                         [10, [1, 13], 15, [1, 13]])

    def test_bounds_of_n(self):
        calls = line(5, (1000, 100000, 7))
        for n, may, run in ((0, -22, -22), (1, 1, 1), (99999, 1, 99999), (100000, 1, 100000), (100001, -22, -22),
                            (TOP, -22, -22)):
            self.assertEqual(asked_of_run(calls, n), (may, run, run == -22), n)

    def test_just_what_is_left(self):
        for wire, most in (((1000, 90), 90), ((1500, 90), 60), ((1500, 91), 60), ((1500, 89), 59), ((2000, 1), 0),
                           ((2000, 2), 1), ((1001, 90), 89), ((1000, 0), 0), ((1000, 1), 1)):
            calls = line(5, wire)
            if most > 0:
                self.assertEqual(asked_of_run(calls, most), (1, most, False), wire)
            self.assertEqual(asked_of_run(calls, most + 1), (0, -12, True), wire)

    def test_the_bobbin_that_has_least_decides(self):
        for wires in (((1000, 90), (2000, 90)), ((2000, 90), (1000, 90)), ((1000, 90), (1000, 45), (1000, 50))):
            self.assertEqual(asked_of_run(line(5, *wires), 45), (1, 45, False))
            self.assertEqual(asked_of_run(line(5, *wires), 46), (0, -12, True))

    def test_the_last_metre_of_wire_is_enough(self):
        # 7 metres of a lay of 1,001 take 8; the joint is in the last of them.
        calls = line(5, (1001, 8, 7))
        self.assertEqual(ask(*calls, ("lasts",), ("run", 7), ("look", 0), ("gone",), ("lasts",), ("run", 1))[3:],
                         [7, 7, [0, 1001], [1, 6], 0, -12])

    def test_no_bobbins(self):
        self.assertEqual(asked_of_run([("begin", 5)], 1), (0, -12, True))
        self.assertEqual(asked_of_run([("begin", 5)], 0), (-22, -22, True))

    def test_an_empty_bobbin(self):
        self.assertEqual(asked_of_run(line(5, (1000, 90), (1000, 0)), 1), (0, -12, True))
        self.assertEqual(asked_of_run(line(5, (1000, 90), (1000, 0)) + [("join", 1, 1)], 1), (1, 1, False))

    def test_not_fine(self):
        self.assertEqual(asked_of_run(NOT_FINE, 1), (0, -33, True))
        self.assertEqual(asked_of_run(NOT_FINE, 50), (0, -33, True))

    def test_which_refusal_comes_first(self):
        self.assertEqual(asked_of_run(NOT_FINE, 51), (0, -12, True))
        self.assertEqual(asked_of_run(NOT_FINE, 100000), (0, -12, True))
        self.assertEqual(asked_of_run(NOT_FINE, 100001), (-22, -22, True))
        self.assertEqual(asked_of_run(NOT_FINE, 0), (-22, -22, True))

    def test_cut_as_told_it_runs(self):
        self.assertEqual(ask(*NOT_FINE, ("run", 1), ("cutleast",), ("run", 20), ("gone",), ("nearest",))[5:],
                         [-33, 3, 20, [2, 4, 9], 5])

    def test_all_must_be_fine_though_the_run_would_not_reach(self):
        self.assertEqual(last(*line(5, (1000, 90, 70, 72)), ("run", 1)), -33)

    def test_without_joints_between_runs_as_at_once(self):
        # At a lay of 1,000 nothing is rounded, so that it doesn't matter in how many runs.
        calls = line(3, (1000, 60, 2, 9, 30), (1000, 60, 5, 12, 26))
        parts = [("run", 1)] * 30 + [("run", 6)]
        self.assertEqual(sorted(last(*calls, *parts, ("gone",))), sorted(last(*calls, ("run", 36), ("gone",))))


class Laid(unittest.TestCase):
    def test_no_joints_lie_too_near(self):
        # Short runs bring the lays' joints nearer by rounding, and what is too near is cut off before it's laid.
        calls = line(4, (1001, 90, 9, 24, 60), (1777, 190, 7, 60, 130), (1000, 90, 14, 45))
        calls.extend([("cutleast",), ("run", 2)] * 20)
        found = ask(*calls, ("gone",), ("sums",))
        places = sorted(found[-2][1:])
        self.assertEqual((found[-1][0], len(places)), (40, 3))
        self.assertTrue(all(right - left >= 4 for left, right in zip(places, places[1:])), places)
        self.assertEqual(found[-1][4], len(places))

    def test_one_that_came_by_just_gap_ago(self):
        calls = line(5, (1000, 90, 9), (1000, 90)) + [("run", 10)]
        self.assertEqual(ask(*calls, ("joint", 1, 4), ("run", 5), ("gone",), ("nearest",))[4:],
                         [10, 14, 15, [2, 9, 14], 5])
        self.assertEqual(ask(*calls, ("joint", 1, 3), ("run", 5), ("gone",), ("cut", 1, 4), ("run", 5), ("gone",))[4:],
                         [10, 13, -33, [1, 9], 76, 15, [1, 9]])


class Lasts(unittest.TestCase):
    def test_without_bobbins(self):
        self.assertEqual(last(("begin", 5), ("lasts",)), 0)

    def test_of_one_bobbin(self):
        for lay, left, most in ((1000, 0, 0), (1000, 1, 1), (1000, 100000, 100000), (2000, 100000, 50000),
                                (2000, 99999, 49999), (2000, 1, 0), (1500, 3, 2), (1500, 2, 1), (1500, 4, 2),
                                (1001, 1000, 999), (1001, 1001, 1000), (1999, 100000, 50025)):
            self.assertEqual(last(*line(5, (lay, left)), ("lasts",)), most, (lay, left))

    def test_for_just_so_much_the_wire_lasts(self):
        for lay in (1000, 1001, 1010, 1333, 1500, 1667, 1999, 2000):
            for left in list(range(1, 12)) + [999, 1000, 1001, 99999, 100000]:
                most = last(*line(5, (lay, left)), ("lasts",))
                self.assertLessEqual(last(*line(5, (lay, left)), ("wire", 0, most)), left)
                if most < 100000:
                    self.assertGreater(last(*line(5, (lay, left)), ("wire", 0, most + 1)), left)
                    self.assertEqual(last(*line(5, (lay, left)), ("run", most + 1)), -12)
                if most > 0:
                    self.assertEqual(last(*line(5, (lay, left)), ("run", most)), most)

    def test_the_least_of_all_bobbins(self):
        self.assertEqual(last(*line(5, (1000, 90), (1500, 90), (1000, 70)), ("lasts",)), 60)
        self.assertEqual(last(*line(5, (1000, 90), (1500, 90), (1000, 0)), ("lasts",)), 0)

    def test_it_does_not_ask_whether_all_is_fine(self):
        self.assertEqual(last(*NOT_FINE, ("lasts",)), 50)

    def test_behind_runs_cuts_and_joins(self):
        self.assertEqual(ask(*line(5, (1000, 90), (1500, 90)), ("lasts",), ("run", 1), ("lasts",), ("cut", 1, 1),
                             ("lasts",), ("join", 1, 90), ("lasts",), ("join", 0, 90), ("lasts",))[3:],
                         [60, 1, 58, 87, 58, 177, 89, 179, 118])


class Wire(unittest.TestCase):
    def test_it_is_rounded_up(self):
        for lay, n, taken in ((1000, 0, 0), (1000, 1, 1), (1000, 77, 77), (1500, 1, 2), (1500, 2, 3), (1500, 3, 5),
                              (1001, 1, 2), (1001, 1000, 1001), (1001, 999, 1000), (2000, 7, 14), (1999, 1, 2),
                              (1999, 100000, 199900), (2000, 100000, 200000), (1000, 100000, 100000), (2000, 0, 0)):
            self.assertEqual(last(*line(5, (lay, 10)), ("wire", 0, n)), taken, (lay, n))

    def test_of_which_bobbin(self):
        self.assertEqual(ask(*line(5, (1000, 10), (2000, 0)), ("wire", 0, 9), ("wire", 1, 9))[3:], [9, 18])

    def test_refusals(self):
        self.assertEqual(ask(*line(5, (1000, 10)), ("wire", 0, 100001), ("wire", 0, TOP), ("wire", 1, 0),
                             ("wire", 1, 100001), ("wire", TOP, TOP))[2:], [-22, -22, -2, -2, -2])

    def test_it_changes_nothing(self):
        calls = line(5, (1500, 90, 7)) + [("run", 2)]
        self.assertEqual(ask(*calls, ("wire", 0, 5), ("lasts",), *state(1))[4:],
                         [8, 58, [2, 5, 1, 0, 0], 0, [87, 1500, 4]])


if __name__ == "__main__":
    unittest.main()

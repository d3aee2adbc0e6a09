"""Calls 10 to 14: what rests on the best stages."""

import math
import unittest

from tests.session import LARGEST, ask, ask_last

CURVE = ("set_curve", [10, 8, 5, 1])
EIGHT = ("set_curve", [8, 7, 6, 5, 4, 3, 2, 1])
NINE = ("set_curve", [9, 8, 7, 6, 5, 4, 3, 2, 1])
SIXTEEN = ("set_curve", list(range(16, 0, -1)))
ONE = ("set_curve", [9])


def each(curve, name, arguments):
    """What the call is answered for each of the arguments, on one curve."""
    return ask(curve, *[(name, argument) for argument in arguments])[1:]


class Counts(unittest.TestCase):
    """The limits of count, which four calls have in common."""

    NAMED = (
        ("apply_best_stages",), ("marginal_power",), ("count_stage_sets",),
        ("reaches_share", 0), ("reaches_share", 50), ("reaches_share", 100),
    )

    def check(self, curve, allowed, refused):
        for name, *rest in self.NAMED:
            for count in allowed:
                self.assertGreaterEqual(ask_last(curve, (name, count, *rest))[0], 0, (name, count))
            for count in refused:
                self.assertEqual(ask_last(curve, (name, count, *rest)), [-22], (name, count))

    def test_at_most_5(self):
        self.check(SIXTEEN, (1, 4, 5), (6, 7, 16, 17, LARGEST))
        self.check(("set_curve", [6, 5, 4, 3, 2, 1]), (5,), (6, 7))

    def test_at_most_the_number_of_grades(self):
        self.check(CURVE, (1, 4), (5, 6, LARGEST))
        self.check(ONE, (1,), (2, 5, LARGEST))
        self.check(("set_curve", [5, 4, 3, 2, 1]), (5,), (6,))

    def test_the_grades_that_are_left(self):
        for name, *rest in self.NAMED:
            asked = ask(SIXTEEN, ("truncate", 2), (name, 2, *rest), (name, 3, *rest))
            self.assertGreaterEqual(asked[2][0], 0, name)
            self.assertEqual(asked[3], [-22], name)

    def test_0(self):
        self.assertEqual(ask_last(CURVE, ("apply_best_stages", 0)), [0])
        self.assertEqual(ask_last(CURVE, ("marginal_power", 0)), [-22])
        self.assertEqual(ask_last(CURVE, ("count_stage_sets", 0)), [1])
        self.assertEqual(ask_last(CURVE, ("reaches_share", 0, 0)), [1])


class ApplyBestStages(unittest.TestCase):
    def test_answers_the_power_alone(self):
        self.assertEqual(each(CURVE, "apply_best_stages", range(5)), [[0], [16], [21], [23], [24]])

    def test_sets_the_stages(self):
        for count, grades in enumerate(([], [2], [2, 3], [1, 2, 3], [1, 2, 3, 4])):
            asked = ask(CURVE, ("set_stages", [1, 4]), ("apply_best_stages", count), ("power",), ("summary",))
            self.assertEqual(asked[3], asked[2])
            self.assertEqual(asked[4], [4, 10, 8, 5, 1, count] + grades)

    def test_ties_go_to_the_lexicographically_first(self):
        for flows, grades in (
            ([0, 0, 0, 0, 0, 0], [1, 2, 3]), ([4, 4, 4], [1, 3]), ([6, 3, 2], [1]), ([6, 3, 3, 3], [1, 4]),
        ):
            asked = ask(("set_curve", flows), ("apply_best_stages", len(grades)), ("summary",))
            self.assertEqual(asked[2], [len(flows)] + flows + [len(grades)] + grades)

    def test_sixteen_grades(self):
        asked = ask(SIXTEEN, ("apply_best_stages", 5), ("summary",))
        self.assertEqual(asked[1:], [[120], [16] + SIXTEEN[1] + [5, 2, 5, 8, 11, 14]])

    def test_the_best_stages_can_be_changed(self):
        asked = ask(CURVE, ("apply_best_stages", 2), ("add_stage", 4), ("remove_stage", 0), ("best_stages", 2))
        self.assertEqual(asked[1:], [[21], [22], [16], [21, 2, 3]])


class MarginalPower(unittest.TestCase):
    def test_answers_what_one_more_stage_brings(self):
        self.assertEqual(each(CURVE, "marginal_power", range(1, 5)), [[16], [5], [2], [1]])

    def test_a_curve_without_flow(self):
        self.assertEqual(each(("set_curve", [0] * 16), "marginal_power", range(1, 6)), [[0]] * 5)

    def test_one_grade_carries_all(self):
        self.assertEqual(each(("set_curve", [7, 7, 7]), "marginal_power", range(1, 4)), [[21], [0], [0]])
        self.assertEqual(each(("set_curve", [7, 0, 0]), "marginal_power", range(1, 4)), [[7], [0], [0]])

    def test_the_greatest_flows(self):
        self.assertEqual(ask_last(("set_curve", [1000] * 16), ("marginal_power", 1)), [16000])

    def test_sixteen_grades(self):
        asked = each(SIXTEEN, "marginal_power", range(1, 6))
        self.assertEqual(asked, [[72], [24], [12], [7], [5]])

    def test_does_not_rest_on_the_current_stages(self):
        asked = ask(CURVE, ("set_stages", [1, 4]), ("marginal_power", 2), ("summary",))
        self.assertEqual(asked[2:], [[5], [4, 10, 8, 5, 1, 2, 1, 4]])


class CountStageSets(unittest.TestCase):
    def test_every_number_of_grades(self):
        for grade_count in range(1, 17):
            counts = range(min(5, grade_count) + 1)
            numbers = [[math.comb(grade_count, count)] for count in counts]
            self.assertEqual(each(("set_curve", [1] * grade_count), "count_stage_sets", counts), numbers)

    def test_known_numbers(self):
        self.assertEqual(each(CURVE, "count_stage_sets", range(5)), [[1], [4], [6], [4], [1]])
        self.assertEqual(each(SIXTEEN, "count_stage_sets", range(6)), [[1], [16], [120], [560], [1820], [4368]])

    def test_does_not_rest_on_the_flows_or_the_stages(self):
        asked = ask(("set_curve", [0, 0, 0]), ("set_stages", [1, 2]), ("count_stage_sets", 2))
        self.assertEqual(asked[2], [3])


class BestStageCount(unittest.TestCase):
    def test_answers_the_number_and_its_power(self):
        for cost, answer in ((0, [4, 24]), (3, [2, 21]), (4, [2, 21]), (6, [1, 16]), (15, [1, 16]), (17, [0, 0])):
            self.assertEqual(ask_last(CURVE, ("best_stage_count", cost)), answer, cost)

    def test_ties_go_to_the_smaller_number(self):
        for cost, answer in ((1, [3, 23]), (2, [2, 21]), (5, [1, 16]), (16, [0, 0])):
            self.assertEqual(ask_last(CURVE, ("best_stage_count", cost)), answer, cost)
        self.assertEqual(ask_last(("set_curve", [4, 4, 4]), ("best_stage_count", 0)), [1, 12])
        self.assertEqual(ask_last(("set_curve", [0, 0, 0]), ("best_stage_count", 0)), [0, 0])
        self.assertEqual(ask_last(("set_curve", [5, 0, 0]), ("best_stage_count", 5)), [0, 0])

    def test_more_than_5_stages(self):
        self.assertEqual(ask_last(("set_curve", [6, 5, 4, 3, 2, 1]), ("best_stage_count", 0)), [6, 21])
        self.assertEqual(ask_last(("set_curve", [80, 70, 60, 50, 40, 30, 20, 10]), ("best_stage_count", 9)), [8, 360])
        self.assertEqual(ask_last(EIGHT, ("best_stage_count", 0)), [8, 36])

    def test_every_number_of_stages_from_0_to_8(self):
        # Each stage more brings half of what the one before it brought: 128, 64, .. 1.
        curve = ("set_curve", [128, 64, 32, 16, 8, 4, 2, 1])
        for count, cost in enumerate((128, 64, 32, 16, 8, 4, 2, 1, 0)):
            self.assertEqual(ask_last(curve, ("best_stage_count", cost)), [count, 256 - 2 ** (8 - count)])

    def test_at_most_8_grades(self):
        for grade_count in range(1, 17):
            answer = ask_last(("set_curve", [1] * grade_count), ("best_stage_count", 0))
            self.assertEqual(answer, [1, grade_count] if grade_count <= 8 else [-75], grade_count)

    def test_too_many_grades_for_any_cost(self):
        for curve in (NINE, SIXTEEN):
            self.assertEqual(each(curve, "best_stage_count", (0, 1, 1000, LARGEST)), [[-75]] * 4)

    def test_the_grades_that_are_left(self):
        asked = ask(NINE, ("best_stage_count", 0), ("truncate", 8), ("best_stage_count", 0))
        self.assertEqual(asked[1:], [[-75], [1], [8, 44]])

    def test_the_largest_cost(self):
        for curve in (CURVE, EIGHT, ONE, ("set_curve", [1000] * 8)):
            self.assertEqual(ask_last(curve, ("best_stage_count", LARGEST)), [0, 0])

    def test_one_grade(self):
        self.assertEqual(each(ONE, "best_stage_count", (0, 8, 9, 10)), [[1, 9], [1, 9], [0, 0], [0, 0]])

    def test_the_greatest_flows(self):
        asked = each(("set_curve", [1000] * 8), "best_stage_count", (0, 7999, 8000))
        self.assertEqual(asked, [[1, 8000], [1, 8000], [0, 0]])


class ReachesShare(unittest.TestCase):
    def shares(self, curve, count, percents):
        return [answer[0] for answer in ask(curve, *[("reaches_share", count, part) for part in percents])[1:]]

    def test_up_to_the_share(self):
        # The best power is 16 for 1, 21 for 2, 23 for 3 stages, of 24.
        for count, highest in ((0, 0), (1, 66), (2, 87), (3, 95)):
            self.assertEqual(self.shares(CURVE, count, (0, highest, highest + 1, 100)), [1, 1, 0, 0])

    def test_a_stage_at_every_grade_reaches_all(self):
        self.assertEqual(self.shares(CURVE, 4, range(101)), [1] * 101)

    def test_just_the_share_is_reached(self):
        curve = ("set_curve", [3, 1])
        self.assertEqual(self.shares(curve, 1, (74, 75, 76)), [1, 1, 0])
        self.assertEqual(self.shares(("set_curve", [1, 1, 0]), 1, (99, 100)), [1, 1])
        self.assertEqual(self.shares(("set_curve", [50, 25, 25, 0]), 2, (100,)), [1])

    def test_a_curve_without_flow_is_reached(self):
        for count in range(6):
            self.assertEqual(self.shares(("set_curve", [0] * 16), count, (0, 1, 100)), [1, 1, 1])

    def test_does_not_rest_on_the_current_stages(self):
        asked = ask(CURVE, ("set_stages", [4]), ("reaches_share", 2, 87), ("set_stages", []), ("reaches_share", 2, 87))
        self.assertEqual([asked[2], asked[4]], [[1], [1]])

    def test_the_greatest_flows(self):
        self.assertEqual(self.shares(("set_curve", [1000] * 16), 1, (100,)), [1])
        self.assertEqual(self.shares(("set_curve", [1000] + [0] * 15), 1, (100,)), [1])

    def test_refuses_a_percent_above_100(self):
        for curve in (CURVE, ("set_curve", [0] * 5)):
            for count in (0, 1, 4, 5, LARGEST):
                for percent in (101, 102, 1000, LARGEST):
                    self.assertEqual(ask_last(curve, ("reaches_share", count, percent)), [-22])


if __name__ == "__main__":
    unittest.main()

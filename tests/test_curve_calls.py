"""Calls 0 to 5: the steam curve."""

import unittest

from tests.session import LARGEST, ask, ask_last

CURVE = ("set_curve", [10, 8, 5, 1])


class SetCurve(unittest.TestCase):
    def test_answers_the_number_of_grades(self):
        self.assertEqual(ask(CURVE), [[4]])

    def test_keeps_the_flow_at_grade_1_first(self):
        asked = ask(CURVE, *[("flow_at", grade) for grade in (1, 2, 3, 4)])
        self.assertEqual(asked[1:], [[10], [8], [5], [1]])

    def test_one_grade(self):
        self.assertEqual(ask(("set_curve", [7]), ("total_flow",)), [[1], [7]])

    def test_sixteen_grades(self):
        flows = list(range(16, 0, -1))
        self.assertEqual(ask(("set_curve", flows), ("total_flow",)), [[16], [136]])

    def test_flows_0_and_1000(self):
        for flows in ([0], [1000], [1000, 0], [1000] * 16, [0] * 16):
            asked = ask(("set_curve", flows), ("total_flow",))
            self.assertEqual(asked, [[len(flows)], [sum(flows)]])

    def test_equal_flows(self):
        self.assertEqual(ask(("set_curve", [5, 5, 5])), [[3]])

    def test_refuses_what_is_no_curve(self):
        refused = (
            [], [1] * 17, [0] * 60, [1, 2], [5, 4, 4, 5], [9, 1, 2], [1001], [1001, 1],
            [LARGEST], [LARGEST] * 60, [3, LARGEST],
        )
        for flows in refused:
            with self.subTest(flows=flows):
                self.assertEqual(ask(("set_curve", flows)), [[-22]])
                self.assertEqual(ask_last(CURVE, ("set_curve", flows)), [-22])

    def test_replaces_the_curve(self):
        asked = ask(CURVE, ("set_curve", [3, 2]), ("total_flow",), ("flow_at", 3))
        self.assertEqual(asked, [[4], [2], [5], [-2]])

    def test_removes_all_stages(self):
        self.assertEqual(ask_last(CURVE, ("set_stages", [2, 4]), CURVE, ("power",)), [0])


class SetFlow(unittest.TestCase):
    def test_answers_the_previous_flow(self):
        asked = ask(CURVE, ("set_flow", 2, 6), ("set_flow", 2, 7), ("flow_at", 2), ("total_flow",))
        self.assertEqual(asked, [[4], [8], [6], [7], [23]])

    def test_up_to_both_neighbours(self):
        for flow in (10, 8, 5):
            asked = ask(CURVE, ("set_flow", 2, flow), ("flow_at", 2))
            self.assertEqual(asked[1:], [[8], [flow]])

    def test_the_lowest_and_the_highest_grade(self):
        asked = ask(CURVE, ("set_flow", 1, 1000), ("set_flow", 4, 0), ("total_flow",))
        self.assertEqual(asked[1:], [[10], [1], [1013]])

    def test_the_only_grade(self):
        for flow in (0, 1000):
            asked = ask(("set_curve", [3]), ("set_flow", 1, flow), ("flow_at", 1))
            self.assertEqual(asked[1:], [[3], [flow]])

    def test_leaves_the_stages(self):
        asked = ask(CURVE, ("set_stages", [2, 4]), ("set_flow", 2, 6), ("power",))
        self.assertEqual(asked[1:], [[18], [8], [14]])

    def test_no_such_grade(self):
        for grade in (0, 5, 16, LARGEST):
            self.assertEqual(ask_last(CURVE, ("set_flow", grade, 1)), [-2])

    def test_the_result_would_be_no_curve(self):
        for grade, flow in ((1, 7), (1, 1001), (1, LARGEST), (2, 11), (2, 4), (4, 6), (3, 0)):
            self.assertEqual(ask_last(CURVE, ("set_flow", grade, flow)), [-22])

    def test_no_such_grade_comes_first(self):
        for grade in (0, 5, LARGEST):
            self.assertEqual(ask_last(CURVE, ("set_flow", grade, LARGEST)), [-2])


class Truncate(unittest.TestCase):
    def test_answers_how_many_grades_are_removed(self):
        for last_grade in (1, 2, 3, 4):
            self.assertEqual(ask_last(CURVE, ("truncate", last_grade)), [4 - last_grade])

    def test_removes_the_grades_above(self):
        asked = ask(CURVE, ("truncate", 2), ("total_flow",), ("flow_at", 2), ("flow_at", 3))
        self.assertEqual(asked[1:], [[2], [18], [8], [-2]])

    def test_removes_the_stages_above(self):
        for last_grade, power in ((4, 18), (3, 16), (2, 16), (1, 0)):
            asked = ask(CURVE, ("set_stages", [2, 4]), ("truncate", last_grade), ("power",))
            self.assertEqual(asked[-1], [power])

    def test_the_limits_follow_the_grades_that_are_left(self):
        asked = ask(
            CURVE, ("truncate", 2), ("truncate", 3), ("set_stages", [3]),
            ("best_stages", 3), ("best_stages", 2), ("set_flow", 2, 0),
        )
        self.assertEqual(asked[1:], [[2], [-2], [-22], [-22], [18, 1, 2], [8]])

    def test_no_such_grade(self):
        for last_grade in (0, 5, 16, LARGEST):
            self.assertEqual(ask_last(CURVE, ("truncate", last_grade)), [-2])


class ReduceFlows(unittest.TestCase):
    def test_answers_how_much_the_total_flow_decreases(self):
        for amount, reduction in ((0, 0), (1, 4), (2, 7), (5, 16), (8, 22), (9, 23), (10, 24), (11, 24)):
            asked = ask(CURVE, ("reduce_flows", amount), ("total_flow",))
            self.assertEqual(asked[1:], [[reduction], [24 - reduction]])

    def test_no_flow_becomes_less_than_0(self):
        asked = ask(CURVE, ("reduce_flows", 6), *[("flow_at", grade) for grade in (1, 2, 3, 4)])
        self.assertEqual(asked[1:], [[18], [4], [2], [0], [0]])

    def test_the_greatest_amount(self):
        asked = ask(CURVE, ("reduce_flows", LARGEST), ("total_flow",), ("reduce_flows", LARGEST))
        self.assertEqual(asked[1:], [[24], [0], [0]])

    def test_leaves_the_stages(self):
        asked = ask(CURVE, ("set_stages", [1, 3]), ("reduce_flows", 2), ("power",))
        self.assertEqual(asked[1:], [[20], [7], [14]])

    def test_a_curve_without_flow_is_a_curve(self):
        asked = ask(CURVE, ("reduce_flows", 10), ("flow_at", 4), ("set_flow", 1, 3), ("total_flow",))
        self.assertEqual(asked[1:], [[24], [0], [0], [3]])


class TotalFlowAndFlowAt(unittest.TestCase):
    def test_total_flow(self):
        self.assertEqual(ask_last(CURVE, ("total_flow",)), [24])
        self.assertEqual(ask_last(("set_curve", [1000] * 16), ("total_flow",)), [16000])

    def test_flow_at(self):
        flows = list(range(160, 0, -10))
        questions = [("flow_at", grade) for grade in range(1, 17)]
        self.assertEqual(ask(("set_curve", flows), *questions)[1:], [[flow] for flow in flows])

    def test_no_such_grade(self):
        for grade in (0, 5, 16, LARGEST):
            self.assertEqual(ask_last(CURVE, ("flow_at", grade)), [-2])


if __name__ == "__main__":
    unittest.main()

"""Calls 6 to 9: stages and their power."""

import unittest

from tests.session import LARGEST, ask, ask_last

CURVE = ("set_curve", [10, 8, 5, 1])
SIXTEEN = ("set_curve", list(range(16, 0, -1)))

NO_STAGES = (
    [0], [5], [LARGEST], [0, 1], [3, 5], [2, 2], [3, 2], [1, 3, 2], [1, 2, 2], [4, 1],
    [1, 2, 3, 4, 5], [1] * 60, list(range(1, 61)), [LARGEST] * 60, [1, LARGEST],
)


class SetStages(unittest.TestCase):
    def test_answers_the_power(self):
        powers = (([1], 10), ([2], 16), ([3], 15), ([4], 4), ([2, 4], 18), ([1, 3], 20), ([2, 3, 4], 22))
        for grades, power in powers:
            asked = ask(CURVE, ("set_stages", grades), ("power",))
            self.assertEqual(asked[1:], [[power], [power]])

    def test_no_stages(self):
        asked = ask(CURVE, ("set_stages", [2, 4]), ("set_stages", []), ("power",))
        self.assertEqual(asked[1:], [[18], [0], [0]])

    def test_a_stage_at_every_grade(self):
        self.assertEqual(ask_last(CURVE, ("set_stages", [1, 2, 3, 4])), [24])
        self.assertEqual(ask_last(SIXTEEN, ("set_stages", list(range(1, 17)))), [136])

    def test_more_stages_than_5(self):
        self.assertEqual(ask_last(SIXTEEN, ("set_stages", [2, 4, 6, 8, 10, 12])), [120])

    def test_replaces_the_stages(self):
        asked = ask(CURVE, ("set_stages", [2, 4]), ("set_stages", [1]), ("power",))
        self.assertEqual(asked[1:], [[18], [10], [10]])

    def test_refuses_what_are_no_stages(self):
        for grades in NO_STAGES:
            with self.subTest(grades=grades):
                self.assertEqual(ask_last(CURVE, ("set_stages", grades)), [-22])

    def test_the_one_grade(self):
        asked = ask(("set_curve", [9]), ("set_stages", [1]), ("set_stages", [2]), ("set_stages", []))
        self.assertEqual(asked[1:], [[9], [-22], [0]])


class Power(unittest.TestCase):
    def test_no_stages_at_first(self):
        self.assertEqual(ask_last(CURVE, ("power",)), [0])

    def test_the_greatest_numbers(self):
        curve = ("set_curve", [1000] * 16)
        self.assertEqual(ask_last(curve, ("set_stages", [16]), ("power",)), [16000])

    def test_follows_the_curve(self):
        asked = ask(
            CURVE, ("set_stages", [1, 3]), ("set_flow", 3, 2), ("power",),
            ("truncate", 1), ("power",), ("reduce_flows", 3), ("power",),
        )
        self.assertEqual([asked[k] for k in (3, 5, 7)], [[14], [10], [7]])


class PowerOf(unittest.TestCase):
    def test_answers_the_power(self):
        for grades, power in (([], 0), ([1], 10), ([4], 4), ([2, 4], 18), ([1, 2, 3, 4], 24)):
            self.assertEqual(ask_last(CURVE, ("power_of", grades)), [power])

    def test_sixteen_grades(self):
        self.assertEqual(ask_last(SIXTEEN, ("power_of", list(range(1, 17)))), [136])
        self.assertEqual(ask_last(SIXTEEN, ("power_of", [16])), [16])

    def test_refuses_what_are_no_stages(self):
        for grades in NO_STAGES:
            with self.subTest(grades=grades):
                self.assertEqual(ask_last(CURVE, ("power_of", grades)), [-22])

    def test_leaves_the_stages(self):
        asked = ask(CURVE, ("set_stages", [2, 4]), ("power_of", [1]), ("power",), ("power_of", []), ("power",))
        self.assertEqual(asked[1:], [[18], [10], [18], [0], [18]])


class BestStages(unittest.TestCase):
    def test_answers_the_power_and_the_grades(self):
        best = ([0], [16, 2], [21, 2, 3], [23, 1, 2, 3], [24, 1, 2, 3, 4])
        for count, answer in enumerate(best):
            self.assertEqual(ask_last(CURVE, ("best_stages", count)), answer)

    def test_the_count_may_be_5_and_the_number_of_grades(self):
        self.assertEqual(ask_last(SIXTEEN, ("best_stages", 5)), [120, 2, 5, 8, 11, 14])
        self.assertEqual(ask_last(("set_curve", [5, 4, 3, 2, 1]), ("best_stages", 5)), [15, 1, 2, 3, 4, 5])
        self.assertEqual(ask_last(("set_curve", [9]), ("best_stages", 1)), [9, 1])
        self.assertEqual(ask_last(("set_curve", [9]), ("best_stages", 0)), [0])

    def test_ties_go_to_the_lexicographically_first(self):
        zeros = ("set_curve", [0, 0, 0, 0, 0, 0])
        self.assertEqual(ask_last(zeros, ("best_stages", 3)), [0, 1, 2, 3])
        self.assertEqual(ask_last(("set_curve", [6, 3, 2]), ("best_stages", 1)), [6, 1])
        self.assertEqual(ask_last(("set_curve", [4, 4, 4]), ("best_stages", 2)), [12, 1, 3])

    def test_refuses_a_count_above_5(self):
        for count in (6, 7, 16, 17, LARGEST):
            self.assertEqual(ask_last(SIXTEEN, ("best_stages", count)), [-22])

    def test_refuses_a_count_above_the_number_of_grades(self):
        self.assertEqual(ask_last(CURVE, ("best_stages", 5)), [-22])
        self.assertEqual(ask_last(("set_curve", [9]), ("best_stages", 2)), [-22])

    def test_leaves_the_stages(self):
        asked = ask(CURVE, ("set_stages", [2, 4]), ("best_stages", 2), ("power",), ("best_stages", 0), ("power",))
        self.assertEqual(asked[1:], [[18], [21, 2, 3], [18], [0], [18]])

    def test_follows_the_curve(self):
        asked = ask(CURVE, ("set_flow", 3, 8), ("best_stages", 1), ("truncate", 2), ("best_stages", 1))
        self.assertEqual(asked[1:], [[5], [24, 3], [2], [16, 2]])


if __name__ == "__main__":
    unittest.main()

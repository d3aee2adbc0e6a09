"""No curve: -11 first. A refused call leaves the state as it was."""

import unittest

from tests.session import LARGEST, ask, state_questions

CURVE = ("set_curve", [10, 8, 5, 1])

# Each call but set_curve, with numbers that it takes and with numbers that it
# would refuse if there were a curve.
NEED_A_CURVE = (
    ("set_flow", 1, 1), ("set_flow", 0, 0), ("set_flow", 1, 1001), ("set_flow", LARGEST, LARGEST),
    ("truncate", 1), ("truncate", 0), ("truncate", LARGEST),
    ("reduce_flows", 0), ("reduce_flows", 1), ("reduce_flows", LARGEST),
    ("total_flow",),
    ("flow_at", 1), ("flow_at", 0), ("flow_at", LARGEST),
    ("set_stages", []), ("set_stages", [1]), ("set_stages", [2, 1]), ("set_stages", [LARGEST] * 60),
    ("power",),
    ("power_of", []), ("power_of", [1]), ("power_of", [2, 1]), ("power_of", [LARGEST] * 60),
    ("best_stages", 0), ("best_stages", 1), ("best_stages", 6), ("best_stages", LARGEST),
    ("apply_best_stages", 1), ("marginal_power", 1), ("count_stage_sets", 1),
    ("best_stage_count", 1), ("reaches_share", 1, 50), ("improve_stage",), ("add_stage", 1),
    ("remove_stage", 0), ("unused_power",), ("summary",),
)

NO_CURVES = ([], [1, 2], [1001], [1] * 17, [0] * 60, [LARGEST])

# Calls that are refused on the curve above, with their error codes.
REFUSED = (
    [(("set_curve", flows), -22) for flows in NO_CURVES]
    + [(("set_flow", grade, 1), -2) for grade in (0, 5, LARGEST)]
    + [(("set_flow", grade, flow), -22) for grade, flow in ((1, 7), (1, 1001), (2, 11), (3, 0), (4, LARGEST))]
    + [(("truncate", grade), -2) for grade in (0, 5, LARGEST)]
    + [(("flow_at", grade), -2) for grade in (0, 5, LARGEST)]
    + [((name, grades), -22) for name in ("set_stages", "power_of")
       for grades in ([0], [1, 5], [2, 2], [1, 3, 2], [1] * 60, [LARGEST])]
    + [(("best_stages", count), -22) for count in (5, 6, LARGEST)]
)


class NoCurve(unittest.TestCase):
    def test_a_new_instance_has_no_curve(self):
        for call in NEED_A_CURVE:
            with self.subTest(call=call):
                self.assertEqual(ask(call), [[-11]])

    def test_a_refused_set_curve_sets_no_curve(self):
        for flows in NO_CURVES:
            for call in NEED_A_CURVE:
                with self.subTest(flows=flows, call=call):
                    self.assertEqual(ask(("set_curve", flows), call), [[-22], [-11]])

    def test_all_of_them_in_one_session(self):
        asked = ask(*NEED_A_CURVE, CURVE, ("total_flow",))
        self.assertEqual(asked, [[-11]] * len(NEED_A_CURVE) + [[4], [24]])

    def test_stages_handed_in_too_early_are_not_kept(self):
        self.assertEqual(ask(("set_stages", [1]), CURVE, ("power",)), [[-11], [4], [0]])


class RefusedCalls(unittest.TestCase):
    def test_the_state_is_as_it_was(self):
        questions = state_questions(4)
        before = ask(CURVE, ("set_stages", [1, 3]), *questions)
        self.assertEqual(before[2:], [[24], [20], [10], [8], [5], [1], [-2]])
        for call, code in REFUSED:
            with self.subTest(call=call):
                asked = ask(CURVE, ("set_stages", [1, 3]), call, *questions)
                self.assertEqual(asked, before[:2] + [[code]] + before[2:])

    def test_the_stages_are_as_they_were(self):
        # Flow at grade 3 alone is changed afterwards, so the power tells whether
        # grade 3 is still a stage, and grade 2 still none.
        for call, code in REFUSED:
            with self.subTest(call=call):
                asked = ask(CURVE, ("set_stages", [1, 3]), call, ("set_flow", 3, 8), ("power",))
                self.assertEqual(asked[2:], [[code], [5], [26]])

    def test_all_of_them_in_one_session(self):
        asked = ask(CURVE, ("set_stages", [1, 3]), *[call for call, code in REFUSED], *state_questions(4))
        self.assertEqual(asked[2:2 + len(REFUSED)], [[code] for call, code in REFUSED])
        self.assertEqual(asked[-7:], [[24], [20], [10], [8], [5], [1], [-2]])


class Questions(unittest.TestCase):
    def test_calls_that_ask_change_nothing(self):
        questions = state_questions(4)
        before = ask(CURVE, ("set_stages", [1, 3]), *questions)
        asking = (
            ("total_flow",), ("flow_at", 2), ("power",), ("power_of", []), ("power_of", [2, 4]),
            ("best_stages", 0), ("best_stages", 1), ("best_stages", 4),
        )
        for call in asking:
            with self.subTest(call=call):
                asked = ask(CURVE, ("set_stages", [1, 3]), call, *questions)
                self.assertEqual(asked[3:], before[2:])


if __name__ == "__main__":
    unittest.main()

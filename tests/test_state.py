"""No curve: -11 first. A refused call leaves the state as it was. Which calls change it."""

import unittest

from tests.session import CALLS, LARGEST, ask, state_questions

CURVE = ("set_curve", [10, 8, 5, 1])
STAGES = ("set_stages", [1, 3])
NINE = ("set_curve", [9, 8, 7, 6, 5, 4, 3, 2, 1])
SIXTEEN = ("set_curve", list(range(16, 0, -1)))

# Each call but set_curve, with numbers that it takes and with numbers that it
# would refuse if there were a curve.
NEED_A_CURVE = (
    ("set_flow", 1, 1), ("set_flow", 0, 0), ("set_flow", 1, 1001), ("set_flow", LARGEST, LARGEST),
    ("truncate", 1), ("truncate", 0), ("truncate", LARGEST),
    ("reduce_flows", 0), ("reduce_flows", 1), ("reduce_flows", LARGEST),
    ("total_flow",),
    ("flow_at", 1), ("flow_at", 0), ("flow_at", LARGEST),
    ("set_stages", []), ("set_stages", [1]), ("set_stages", [2, 1]), ("set_stages", [LARGEST] * 60),
    ("power",),
    ("power_of", []), ("power_of", [1]), ("power_of", [2, 1]), ("power_of", [LARGEST] * 60),
    ("best_stages", 0), ("best_stages", 1), ("best_stages", 6), ("best_stages", LARGEST),
    ("apply_best_stages", 0), ("apply_best_stages", 1), ("apply_best_stages", 6), ("apply_best_stages", LARGEST),
    ("marginal_power", 0), ("marginal_power", 1), ("marginal_power", 6), ("marginal_power", LARGEST),
    ("count_stage_sets", 0), ("count_stage_sets", 1), ("count_stage_sets", 6), ("count_stage_sets", LARGEST),
    ("best_stage_count", 0), ("best_stage_count", 1), ("best_stage_count", LARGEST),
    ("reaches_share", 0, 0), ("reaches_share", 1, 50), ("reaches_share", 6, 50), ("reaches_share", 1, 101),
    ("reaches_share", LARGEST, LARGEST),
    ("improve_stage",),
    ("add_stage", 0), ("add_stage", 1), ("add_stage", LARGEST),
    ("remove_stage", 0), ("remove_stage", 1), ("remove_stage", LARGEST),
    ("unused_power",),
    ("summary",),
)

NO_CURVES = ([], [1, 2], [1001], [1] * 17, [0] * 60, [LARGEST])

# Calls that are refused on the curve and with the stages above, with their error codes.
REFUSED = (
    [(("set_curve", flows), -22) for flows in NO_CURVES]
    + [(("set_flow", grade, 1), -2) for grade in (0, 5, LARGEST)]
    + [(("set_flow", grade, flow), -22) for grade, flow in ((1, 7), (1, 1001), (2, 11), (3, 0), (4, LARGEST))]
    + [(("truncate", grade), -2) for grade in (0, 5, LARGEST)]
    + [(("flow_at", grade), -2) for grade in (0, 5, LARGEST)]
    + [((name, grades), -22) for name in ("set_stages", "power_of")
       for grades in ([0], [1, 5], [2, 2], [1, 3, 2], [1] * 60, [LARGEST])]
    + [((name, count), -22) for name in ("best_stages", "apply_best_stages", "marginal_power", "count_stage_sets")
       for count in (5, 6, LARGEST)]
    + [(("marginal_power", 0), -22)]
    + [(("reaches_share", count, percent), -22)
       for count, percent in ((5, 0), (LARGEST, 100), (0, 101), (1, LARGEST), (LARGEST, LARGEST))]
    + [(("add_stage", grade), -2) for grade in (0, 5, LARGEST)]
    + [(("add_stage", grade), -17) for grade in (1, 3)]
    + [(("remove_stage", index), -2) for index in (2, 3, LARGEST)]
)

# Calls that are refused where other calls went before.
REFUSED_ELSEWHERE = (
    [((NINE, ("set_stages", [2, 5, 9])), ("best_stage_count", cost), -75) for cost in (0, 1, LARGEST)]
    + [((SIXTEEN, ("set_stages", [16])), ("best_stage_count", cost), -75) for cost in (0, 1, LARGEST)]
    + [((SIXTEEN, ("set_stages", [16])), ("apply_best_stages", count), -22) for count in (6, 16, LARGEST)]
    + [((CURVE, ("set_stages", grades)), ("improve_stage",), -33) for grades in ([], [2], [2, 3], [1, 2, 3, 4])]
    + [((CURVE, ("set_stages", [])), ("remove_stage", index), -2) for index in (0, LARGEST)]
    + [((CURVE, ("set_stages", [1, 2, 3, 4])), ("add_stage", grade), -17) for grade in (1, 2, 3, 4)]
    + [((CURVE, ("set_stages", [1, 2, 3, 4])), ("remove_stage", 4), -2)]
)

# Calls that change something, made with the curve above and stages 2 and 4: what
# is answered, and the summary afterwards.
CHANGES = (
    (("set_curve", [3, 2]), [2], [2, 3, 2, 0]),
    (("set_flow", 3, 8), [5], [4, 10, 8, 8, 1, 2, 2, 4]),
    (("truncate", 3), [1], [3, 10, 8, 5, 1, 2]),
    (("truncate", 1), [3], [1, 10, 0]),
    (("reduce_flows", 5), [16], [4, 5, 3, 0, 0, 2, 2, 4]),
    (("set_stages", [1, 3, 4]), [21], [4, 10, 8, 5, 1, 3, 1, 3, 4]),
    (("set_stages", []), [0], [4, 10, 8, 5, 1, 0]),
    (("apply_best_stages", 1), [16], [4, 10, 8, 5, 1, 1, 2]),
    (("apply_best_stages", 3), [23], [4, 10, 8, 5, 1, 3, 1, 2, 3]),
    (("apply_best_stages", 0), [0], [4, 10, 8, 5, 1, 0]),
    (("improve_stage",), [21, 1, 3], [4, 10, 8, 5, 1, 2, 2, 3]),
    (("add_stage", 3), [22], [4, 10, 8, 5, 1, 3, 2, 3, 4]),
    (("remove_stage", 0), [4], [4, 10, 8, 5, 1, 1, 4]),
    (("remove_stage", 1), [16], [4, 10, 8, 5, 1, 1, 2]),
)

# Calls that only ask, with what is answered on the curve above with stages 2 and 4.
ASKING = (
    (("total_flow",), [24]),
    (("flow_at", 2), [8]),
    (("power",), [18]),
    (("power_of", []), [0]),
    (("power_of", [1, 3]), [20]),
    (("best_stages", 0), [0]),
    (("best_stages", 1), [16, 2]),
    (("best_stages", 4), [24, 1, 2, 3, 4]),
    (("marginal_power", 1), [16]),
    (("marginal_power", 4), [1]),
    (("count_stage_sets", 0), [1]),
    (("count_stage_sets", 2), [6]),
    (("best_stage_count", 0), [4, 24]),
    (("best_stage_count", 2), [2, 21]),
    (("reaches_share", 0, 0), [1]),
    (("reaches_share", 1, 67), [0]),
    (("unused_power",), [6]),
    (("summary",), [4, 10, 8, 5, 1, 2, 2, 4]),
)


class NoCurve(unittest.TestCase):
    def test_every_call_is_among_them(self):
        self.assertEqual({call[0] for call in NEED_A_CURVE}, set(CALLS) - {"set_curve"})

    def test_a_new_instance_has_no_curve(self):
        for call in NEED_A_CURVE:
            with self.subTest(call=call):
                self.assertEqual(ask(call), [[-11]])

    def test_a_refused_set_curve_sets_no_curve(self):
        for flows in NO_CURVES:
            for call in NEED_A_CURVE:
                with self.subTest(flows=flows, call=call):
                    self.assertEqual(ask(("set_curve", flows), call), [[-22], [-11]])

    def test_all_of_them_in_one_session(self):
        asked = ask(*NEED_A_CURVE, CURVE, ("summary",))
        self.assertEqual(asked, [[-11]] * len(NEED_A_CURVE) + [[4], [4, 10, 8, 5, 1, 0]])

    def test_a_curve_once_set_stays(self):
        asked = ask(CURVE, ("reduce_flows", LARGEST), ("truncate", 1), ("set_curve", []), ("summary",))
        self.assertEqual(asked[1:], [[24], [3], [-22], [1, 0, 0]])

    def test_stages_handed_in_too_early_are_not_kept(self):
        for call in (("set_stages", [1]), ("add_stage", 1), ("apply_best_stages", 1)):
            self.assertEqual(ask(call, CURVE, ("power",), ("summary",)), [[-11], [4], [0], [4, 10, 8, 5, 1, 0]])


class RefusedCalls(unittest.TestCase):
    def test_every_call_that_can_be_refused_is_among_them(self):
        refused = {call[0] for call, code in REFUSED} | {call[0] for before, call, code in REFUSED_ELSEWHERE}
        never = {"reduce_flows", "total_flow", "power", "unused_power", "summary"}
        self.assertEqual(refused, set(CALLS) - never)

    def test_the_state_is_as_it_was(self):
        questions = state_questions(4)
        before = ask(CURVE, STAGES, *questions)
        self.assertEqual(before[2:], [[4, 10, 8, 5, 1, 2, 1, 3], [24], [20], [4], [10], [8], [5], [1], [-2]])
        for call, code in REFUSED:
            with self.subTest(call=call):
                asked = ask(CURVE, STAGES, call, *questions)
                self.assertEqual(asked, before[:2] + [[code]] + before[2:])

    def test_the_state_is_as_it_was_elsewhere(self):
        for before, call, code in REFUSED_ELSEWHERE:
            with self.subTest(before=before, call=call):
                flows = before[0][1]
                grades = before[1][1]
                asked = ask(*before, call, ("summary",))
                self.assertEqual(asked[-2:], [[code], [len(flows)] + flows + [len(grades)] + grades])
                questions = state_questions(len(flows))
                self.assertEqual(ask(*before, call, *questions)[3:], ask(*before, *questions)[2:])

    def test_the_stages_are_as_they_were(self):
        # Flow at grade 3 alone is changed afterwards, so the power tells whether
        # grade 3 is still a stage, and grade 2 still none.
        for call, code in REFUSED:
            with self.subTest(call=call):
                asked = ask(CURVE, STAGES, call, ("set_flow", 3, 8), ("power",))
                self.assertEqual(asked[2:], [[code], [5], [26]])

    def test_all_of_them_in_one_session(self):
        asked = ask(CURVE, STAGES, *[call for call, code in REFUSED], *state_questions(4))
        self.assertEqual(asked[2:2 + len(REFUSED)], [[code] for call, code in REFUSED])
        self.assertEqual(asked[-9:], [[4, 10, 8, 5, 1, 2, 1, 3], [24], [20], [4], [10], [8], [5], [1], [-2]])

    def test_a_refused_call_again_is_refused_again(self):
        for call, code in REFUSED:
            self.assertEqual(ask(CURVE, STAGES, call, call)[2:], [[code], [code]])


class Changes(unittest.TestCase):
    def test_every_call_is_among_those_that_change_or_ask(self):
        changing = {call[0] for call, answer, summary in CHANGES}
        asking = {call[0] for call, answer in ASKING}
        self.assertEqual(changing | asking, set(CALLS))
        self.assertEqual(changing & asking, set())

    def test_calls_that_change_the_state(self):
        for call, answer, summary in CHANGES:
            with self.subTest(call=call):
                asked = ask(CURVE, ("set_stages", [2, 4]), call, ("summary",))
                self.assertEqual(asked[2:], [answer, summary])

    def test_calls_that_ask_change_nothing(self):
        questions = state_questions(4)
        before = ask(CURVE, ("set_stages", [2, 4]), *questions)
        for call, answer in ASKING:
            with self.subTest(call=call):
                asked = ask(CURVE, ("set_stages", [2, 4]), call, *questions)
                self.assertEqual(asked[2:], [answer] + before[2:])

    def test_all_that_ask_in_one_session(self):
        asked = ask(CURVE, ("set_stages", [2, 4]), *[call for call, answer in ASKING] * 2)
        self.assertEqual(asked[2:], [answer for call, answer in ASKING] * 2)

    def test_an_applied_set_is_not_bound_to_the_curve(self):
        asked = ask(CURVE, ("apply_best_stages", 2), ("set_flow", 4, 5), ("power",), ("best_stages", 2), ("summary",))
        self.assertEqual(asked[1:], [[21], [1], [21], [26, 2, 4], [4, 10, 8, 5, 5, 2, 2, 3]])


if __name__ == "__main__":
    unittest.main()

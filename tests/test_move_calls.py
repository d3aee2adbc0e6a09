"""Calls 15 to 19: stages moved, added and removed; what is left unused; the summary."""

import itertools
import unittest

from tests.session import LARGEST, ask, ask_last, searched_improvement

CURVE = ("set_curve", [10, 8, 5, 1])
SIXTEEN = ("set_curve", list(range(16, 0, -1)))


def improved(flows, grades):
    """What improve_stage is answered, and the summary before and after it."""
    setup = (("set_curve", flows), ("set_stages", grades))
    return ask(*setup, ("summary",), ("improve_stage",), ("summary",))[2:]


class ImproveStage(unittest.TestCase):
    def check(self, flows, grades, answer):
        before, asked, after = improved(flows, grades)
        moved = list(grades)
        moved[answer[1]] = answer[2]
        self.assertEqual(before, [len(flows)] + flows + [len(grades)] + grades)
        self.assertEqual(asked, answer)
        self.assertEqual(after, [len(flows)] + flows + [len(moved)] + moved)

    def check_refused(self, flows, grades):
        before, asked, after = improved(flows, grades)
        self.assertEqual(asked, [-33], (flows, grades))
        self.assertEqual(after, before)

    def test_the_example_of_the_document(self):
        self.check([10, 8, 5, 1], [2, 4], [21, 1, 3])

    def test_up_and_down(self):
        self.check([10, 8, 5, 1], [1], [16, 0, 2])
        self.check([10, 8, 5, 1], [4], [16, 0, 2])
        self.check([10, 8, 5, 1], [1, 2], [20, 1, 3])
        self.check([10, 8, 5, 1], [3, 4], [18, 0, 2])
        self.check([10, 8, 5, 1], [1, 3, 4], [22, 0, 2])

    def test_ties_go_to_the_lower_index(self):
        self.check([10, 9, 6, 2], [1, 4], [22, 0, 2])
        self.check([10, 9, 7, 3], [1, 4], [24, 0, 2])
        self.check([10, 9, 8, 2], [1, 4], [26, 0, 3])

    def test_more_power_goes_ahead_of_the_lower_index(self):
        self.check([10, 8, 5, 1], [1, 4], [20, 1, 3])

    def test_ties_go_to_the_lower_grade(self):
        self.check([6, 3, 1], [3], [6, 0, 1])
        self.check([12, 6, 4, 3, 2], [5], [12, 0, 1])
        self.check([10, 6, 3, 1], [1, 4], [16, 1, 2])

    def test_no_stage_goes_past_its_neighbour(self):
        # The lower stage at grade 4 would bring as much, and would be named first.
        self.check([10, 10, 10, 10], [1, 2], [40, 1, 4])
        self.check([10, 10, 10, 10, 0], [1, 2, 5], [40, 1, 4])

    def test_no_stages(self):
        self.check_refused([10, 8, 5, 1], [])
        self.check_refused([9], [])
        self.check_refused([0] * 16, [])

    def test_a_stage_at_every_grade(self):
        self.check_refused([10, 8, 5, 1], [1, 2, 3, 4])
        self.check_refused([9], [1])
        self.check_refused(list(range(16, 0, -1)), list(range(1, 17)))

    def test_no_move_increases_the_power(self):
        for count, grades in ((1, [2]), (2, [2, 3]), (3, [1, 2, 3])):
            self.check_refused([10, 8, 5, 1], grades)

    def test_a_move_to_the_same_power_is_no_increase(self):
        self.check_refused([0, 0, 0], [2])
        self.check_refused([6, 3, 2], [2])
        self.check_refused([6, 3, 2], [3])
        self.check_refused([4, 4, 4], [1, 3])

    def test_one_stage_at_a_time(self):
        # Stages at 4 and 5 have more power, but it takes two moves to go there.
        self.check_refused([10, 10, 10, 10, 7], [1, 4])
        self.assertEqual(ask_last(("set_curve", [10, 10, 10, 10, 7]), ("best_stages", 2)), [47, 4, 5])

    def test_the_move_is_made(self):
        asked = ask(CURVE, ("set_stages", [2, 4]), ("improve_stage",), ("power",), ("improve_stage",), ("power",))
        self.assertEqual(asked[2:], [[21, 1, 3], [21], [-33], [21]])

    def test_move_by_move(self):
        asked = ask(SIXTEEN, ("set_stages", [1, 2, 3]), *[("improve_stage",)] * 20, ("summary",))[2:]
        flows = SIXTEEN[1]
        grades = [1, 2, 3]
        for answer in asked[:-1]:
            self.assertEqual(answer, searched_improvement(flows, grades))
            if answer != [-33]:
                grades[answer[1]] = answer[2]
        self.assertEqual(asked[0], [87, 2, 9])
        self.assertEqual(asked[-2], [-33])
        self.assertEqual(asked[-1], [16] + flows + [3] + grades)

    def test_follows_the_curve(self):
        asked = ask(
            CURVE, ("set_stages", [2, 3]), ("improve_stage",), ("set_flow", 4, 5), ("improve_stage",),
            ("truncate", 3), ("improve_stage",), ("summary",),
        )
        self.assertEqual(asked[2:], [[-33], [1], [26, 1, 4], [1], [-33], [3, 10, 8, 5, 1, 2]])


class AddStage(unittest.TestCase):
    def test_answers_the_power(self):
        for grade, power in ((1, 10), (2, 16), (3, 15), (4, 4)):
            self.assertEqual(ask_last(CURVE, ("add_stage", grade)), [power])

    def test_below_between_and_above(self):
        for grade, power, grades in ((1, 20, [1, 2, 4]), (3, 22, [2, 3, 4])):
            asked = ask(CURVE, ("set_stages", [2, 4]), ("add_stage", grade), ("power",), ("summary",))
            self.assertEqual(asked[2:], [[power], [power], [4, 10, 8, 5, 1, 3] + grades])
        asked = ask(CURVE, ("set_stages", [1, 2]), ("add_stage", 4), ("summary",))
        self.assertEqual(asked[2:], [[20], [4, 10, 8, 5, 1, 3, 1, 2, 4]])

    def test_every_order(self):
        for order in itertools.permutations((1, 2, 3, 4)):
            asked = ask(CURVE, *[("add_stage", grade) for grade in order], ("summary",))
            self.assertEqual(asked[-2:], [[24], [4, 10, 8, 5, 1, 4, 1, 2, 3, 4]])

    def test_more_stages_than_5(self):
        asked = ask(SIXTEEN, *[("add_stage", grade) for grade in range(16, 0, -1)], ("summary",))
        self.assertEqual(asked[-2:], [[136], [16] + SIXTEEN[1] + [16] + list(range(1, 17))])

    def test_no_such_grade(self):
        for grade in (0, 5, 16, LARGEST):
            self.assertEqual(ask_last(CURVE, ("add_stage", grade)), [-2])
            self.assertEqual(ask_last(CURVE, ("set_stages", [1, 2, 3, 4]), ("add_stage", grade)), [-2])

    def test_already_a_stage(self):
        for grade in (2, 4):
            self.assertEqual(ask_last(CURVE, ("set_stages", [2, 4]), ("add_stage", grade)), [-17])
        self.assertEqual(ask(CURVE, ("add_stage", 2), ("add_stage", 2))[1:], [[16], [-17]])

    def test_no_such_grade_comes_first(self):
        # The stage at grade 4 went with its grade.
        asked = ask(CURVE, ("set_stages", [2, 4]), ("truncate", 3), ("add_stage", 4), ("add_stage", 2))
        self.assertEqual(asked[2:], [[1], [-2], [-17]])

    def test_a_stage_without_flow(self):
        asked = ask(("set_curve", [5, 0]), ("add_stage", 2), ("add_stage", 1))
        self.assertEqual(asked[1:], [[0], [5]])


class RemoveStage(unittest.TestCase):
    def test_the_lowest_the_middle_and_the_highest(self):
        for index, power, grades in ((0, 16, [3, 4]), (1, 13, [1, 4]), (2, 20, [1, 3])):
            asked = ask(CURVE, ("set_stages", [1, 3, 4]), ("remove_stage", index), ("power",), ("summary",))
            self.assertEqual(asked[2:], [[power], [power], [4, 10, 8, 5, 1, 2] + grades])

    def test_the_index_is_no_grade(self):
        asked = ask(CURVE, ("set_stages", [3]), ("remove_stage", 3), ("remove_stage", 1), ("remove_stage", 0))
        self.assertEqual(asked[1:], [[15], [-2], [-2], [0]])

    def test_the_last_stage(self):
        asked = ask(CURVE, ("set_stages", [2]), ("remove_stage", 0), ("summary",), ("remove_stage", 0))
        self.assertEqual(asked[2:], [[0], [4, 10, 8, 5, 1, 0], [-2]])

    def test_no_such_stage(self):
        for grades in ([], [4], [1, 3], [1, 2, 3, 4]):
            for index in (len(grades), len(grades) + 1, 60, LARGEST):
                self.assertEqual(ask_last(CURVE, ("set_stages", grades), ("remove_stage", index)), [-2])

    def test_all_of_sixteen(self):
        asked = ask(SIXTEEN, ("set_stages", list(range(1, 17))), *[("remove_stage", 0)] * 17)
        # The lowest stage that is left takes the place of those that were beneath it.
        powers = [[lowest * (17 - lowest) + sum(range(1, 17 - lowest))] for lowest in range(2, 17)]
        self.assertEqual(asked[2:], powers + [[0], [-2]])

    def test_undoes_add_stage(self):
        asked = ask(CURVE, ("set_stages", [2, 4]), ("add_stage", 3), ("remove_stage", 1), ("summary",))
        self.assertEqual(asked[2:], [[22], [18], [4, 10, 8, 5, 1, 2, 2, 4]])


class UnusedPower(unittest.TestCase):
    def test_what_the_stages_leave(self):
        for grades, unused in (([], 24), ([1], 14), ([4], 20), ([2, 4], 6), ([2, 3], 3), ([1, 2, 3, 4], 0)):
            self.assertEqual(ask_last(CURVE, ("set_stages", grades), ("unused_power",)), [unused])

    def test_without_stages(self):
        self.assertEqual(ask_last(CURVE, ("unused_power",)), [24])
        self.assertEqual(ask_last(("set_curve", [1000] * 16), ("unused_power",)), [16000])

    def test_a_stage_at_every_grade(self):
        self.assertEqual(ask_last(SIXTEEN, ("set_stages", list(range(1, 17))), ("unused_power",)), [0])

    def test_follows_the_curve_and_the_stages(self):
        asked = ask(
            CURVE, ("add_stage", 2), ("unused_power",), ("reduce_flows", 5), ("unused_power",),
            ("truncate", 1), ("unused_power",), ("set_flow", 1, 1000), ("unused_power",),
        )
        self.assertEqual([asked[k] for k in (2, 4, 6, 8)], [[8], [2], [5], [1000]])


class Summary(unittest.TestCase):
    def test_no_stages(self):
        self.assertEqual(ask_last(CURVE, ("summary",)), [4, 10, 8, 5, 1, 0])
        self.assertEqual(ask_last(("set_curve", [0]), ("summary",)), [1, 0, 0])

    def test_stages(self):
        self.assertEqual(ask_last(CURVE, ("set_stages", [2, 4]), ("summary",)), [4, 10, 8, 5, 1, 2, 2, 4])

    def test_the_longest(self):
        asked = ask_last(SIXTEEN, ("set_stages", list(range(1, 17))), ("summary",))
        self.assertEqual(asked, [16] + list(range(16, 0, -1)) + [16] + list(range(1, 17)))

    def test_follows_every_change(self):
        asked = ask(
            CURVE, ("set_stages", [1, 4]), ("summary",), ("set_flow", 2, 9), ("summary",), ("reduce_flows", 2),
            ("summary",), ("truncate", 3), ("summary",), ("set_curve", [6]), ("summary",),
        )
        self.assertEqual([asked[k] for k in (2, 4, 6, 8, 10)], [
            [4, 10, 8, 5, 1, 2, 1, 4], [4, 10, 9, 5, 1, 2, 1, 4], [4, 8, 7, 3, 0, 2, 1, 4],
            [3, 8, 7, 3, 1, 1], [1, 6, 0],
        ])


if __name__ == "__main__":
    unittest.main()

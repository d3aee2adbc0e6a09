"""How calls are handed in and answers are given back."""

import time
import unittest

from flashgrades.stages import answers
from tests.session import CALLS, LARGEST, ask, encode

# Each call, refused ones among them.
SESSION = [
    ("power",), ("set_curve", [10, 8, 5, 1]), ("set_stages", [2, 4]), ("set_flow", 2, 9),
    ("total_flow",), ("flow_at", 4), ("power",), ("power_of", []), ("power_of", [1, 2]),
    ("best_stages", 0), ("best_stages", 3), ("best_stages", 5), ("improve_stage",),
    ("add_stage", 4), ("add_stage", 4), ("remove_stage", 1), ("remove_stage", 2), ("unused_power",),
    ("apply_best_stages", 2), ("marginal_power", 2), ("count_stage_sets", 2), ("best_stage_count", 3),
    ("reaches_share", 2, 80), ("improve_stage",), ("summary",), ("truncate", 3),
    ("reduce_flows", 6), ("set_curve", []), ("set_stages", [LARGEST]), ("summary",),
]


class Unchangeable(list):
    """A list that refuses to be changed, for a while either."""

    def refuse(self, *arguments, **named):
        raise AssertionError("the list that was handed in is changed")

    append = clear = extend = insert = pop = remove = reverse = sort = refuse
    __setitem__ = __delitem__ = __iadd__ = __imul__ = refuse


class Examples(unittest.TestCase):
    def test_the_session_of_the_document(self):
        asked = ask(
            ("set_curve", [10, 8, 5, 1]), ("set_stages", [2, 4]), ("best_stages", 1), ("best_stages", 2),
            ("marginal_power", 2), ("improve_stage",), ("set_curve", [1, 2]),
        )
        self.assertEqual(asked, [[4], [18], [16, 2], [21, 2, 3], [5], [21, 1, 3], [-22]])

    def test_number_by_number(self):
        calls = [0, 4, 10, 8, 5, 1, 6, 2, 2, 4, 9, 1, 9, 2, 11, 2, 15, 0, 2, 1, 2]
        self.assertEqual(answers(calls), [1, 4, 1, 18, 2, 16, 2, 3, 21, 2, 3, 1, 5, 3, 21, 1, 3, 1, -22])


class Numbers(unittest.TestCase):
    def test_the_number_of_each_call(self):
        calls = [0, 3, 9, 6, 3, 1, 3, 1, 2, 2, 3, 1, 4, 5, 2, 6, 1, 2, 7, 8, 2, 1, 2, 9, 1]
        self.assertEqual(answers(calls), [1, 3, 1, 3, 1, 1, 1, 2, 1, 13, 1, 5, 1, 10, 1, 10, 1, 13, 2, 10, 2])
        calls = [0, 4, 10, 8, 5, 1, 10, 1, 11, 2, 12, 2, 13, 2, 14, 2, 87, 15, 16, 1, 17, 1, 18, 19]
        self.assertEqual(answers(calls), [
            1, 4, 1, 16, 1, 5, 1, 6, 2, 2, 21, 1, 1, 1, -33, 1, 18, 1, 10, 1, 14, 7, 4, 10, 8, 5, 1, 1, 1,
        ])

    def test_a_refusal_is_its_code_alone(self):
        calls = [9, 1, 0, 0, 0, 1, 3, 9, 2, 5, 2, 8, 2, 1, 1]
        self.assertEqual(answers(calls), [1, -11, 1, -22, 1, 1, 1, -22, 1, -2, 1, -22])
        calls = [19, 0, 1, 3, 10, 2, 11, 0, 12, 2, 14, 2, 101, 15, 16, 2, 16, 1, 16, 1, 17, 1]
        self.assertEqual(answers(calls), [
            1, -11, 1, 1, 1, -22, 1, -22, 1, -22, 1, -22, 1, -33, 1, -2, 1, 3, 1, -17, 1, -2,
        ])
        self.assertEqual(answers([0, 9] + [1] * 9 + [13, 0]), [1, 9, 1, -75])

    def test_an_answer_has_what_stands_behind_the_arrow(self):
        curve = [0, 4, 10, 8, 5, 1, 6, 2, 2, 4]
        told = (
            ([10, 3], [1, 23]), ([11, 3], [1, 2]), ([12, 3], [1, 4]), ([13, 3], [2, 2, 21]), ([14, 3, 96], [1, 0]),
            ([15], [3, 21, 1, 3]), ([16, 3], [1, 22]), ([17, 0], [1, 4]), ([18], [1, 6]),
            ([19], [8, 4, 10, 8, 5, 1, 2, 2, 4]),
        )
        for call, answer in told:
            self.assertEqual(answers(curve + call), [1, 4, 1, 18] + answer)
            self.assertEqual(answers(curve + call + [4]), [1, 4, 1, 18] + answer + [1, 24])

    def test_empty_lists(self):
        self.assertEqual(answers([0, 1, 5, 6, 0, 8, 0, 0, 0]), [1, 1, 1, 0, 1, 0, 1, -22])
        self.assertEqual(answers([0, 1, 5, 19]), [1, 1, 3, 1, 5, 0])

    def test_best_stages_for_0_has_no_grades(self):
        self.assertEqual(answers([0, 1, 5, 9, 0]), [1, 1, 1, 0])

    def test_whole_numbers_in_a_list(self):
        answered = answers(encode(SESSION))
        self.assertIs(type(answered), list)
        self.assertEqual({type(number) for number in answered}, {int})

    def test_lists_of_60_numbers(self):
        calls = [0] + [60] + [1] * 60 + [0, 1, 5] + [6] + [60] + [1] * 60 + [8] + [60] + [1] * 60 + [7]
        self.assertEqual(answers(calls), [1, -22, 1, 1, 1, -22, 1, -22, 1, 0])

    def test_the_largest_number_for_each_number(self):
        asked = ask(
            ("set_curve", [5, 3]), ("set_flow", LARGEST, LARGEST), ("set_flow", 1, LARGEST), ("truncate", LARGEST),
            ("flow_at", LARGEST), ("set_stages", [LARGEST]), ("power_of", [LARGEST]), ("best_stages", LARGEST),
            ("set_curve", [LARGEST]), ("reduce_flows", LARGEST), ("total_flow",),
        )
        self.assertEqual(asked, [[2], [-2], [-22], [-2], [-2], [-22], [-22], [-22], [-22], [8], [0]])
        asked = ask(
            ("set_curve", [5, 3]), ("apply_best_stages", LARGEST), ("marginal_power", LARGEST),
            ("count_stage_sets", LARGEST), ("best_stage_count", LARGEST), ("reaches_share", LARGEST, 0),
            ("reaches_share", 0, LARGEST), ("add_stage", LARGEST), ("remove_stage", LARGEST), ("summary",),
        )
        self.assertEqual(asked, [[2], [-22], [-22], [-22], [0, 0], [-22], [-22], [-2], [-2], [2, 5, 3, 0]])


class NothingKept(unittest.TestCase):
    def test_every_call_is_among_them(self):
        self.assertEqual({call[0] for call in SESSION}, set(CALLS))

    def test_what_is_handed_in_is_not_changed(self):
        calls = encode(SESSION)
        handed_in = Unchangeable(calls)
        self.assertEqual(answers(handed_in), answers(calls))
        self.assertEqual(list(handed_in), encode(SESSION))
        self.assertEqual(calls, encode(SESSION))

    def test_the_same_list_twice_has_the_same_answer(self):
        calls = encode(SESSION)
        first = answers(calls)
        kept = list(first)
        self.assertEqual(answers(calls), kept)
        self.assertEqual(first, kept)

    def test_each_time_the_instance_is_new(self):
        answers(encode(SESSION))
        self.assertEqual(ask(("total_flow",), ("power",)), [[-11], [-11]])
        self.assertEqual(ask(("set_curve", [3]), ("power",)), [[1], [0]])

    def test_an_answer_that_is_changed_changes_no_other(self):
        first = answers([0, 1, 5])
        first.append(7)
        self.assertEqual(answers([0, 1, 5]), [1, 1])


class Delay(unittest.TestCase):
    def check_without_delay(self, calls):
        self.assertEqual(len(calls), 200)
        numbers = encode(calls)
        start = time.perf_counter()
        answers(numbers)
        self.assertLess(time.perf_counter() - start, 1)

    def test_200_times_the_best_stages(self):
        best = (("best_stages", 5), ("apply_best_stages", 5), ("marginal_power", 5), ("reaches_share", 5, 100))
        for flows in ([1000] * 16, list(range(16, 0, -1))):
            for call in best:
                self.check_without_delay([("set_curve", flows)] + [call] * 199)

    def test_200_times_the_best_stage_count(self):
        for cost in (0, 3, LARGEST):
            calls = [("set_curve", [80, 70, 60, 50, 40, 30, 20, 10])] + [("best_stage_count", cost)] * 199
            self.check_without_delay(calls)

    def test_200_moves(self):
        setup = [("set_curve", list(range(1000, 40, -60))), ("set_stages", [1, 2, 3, 4, 5, 6, 7, 8])]
        self.check_without_delay(setup + [("improve_stage",)] * 198)

    def test_200_long_lists(self):
        self.check_without_delay([("set_curve", [9] * 16)] + [("power_of", list(range(1, 61)))] * 199)

    def test_200_changes(self):
        self.check_without_delay([("set_curve", [1000] * 16)] + [("reduce_flows", 1), ("power",)] * 99 + [("power",)])


if __name__ == "__main__":
    unittest.main()

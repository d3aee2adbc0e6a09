"""How calls are handed in and answers are given back."""

import time
import unittest

from flashgrades.stages import answers
from tests.session import LARGEST, ask, encode

# Each call 0 to 9, refused ones among them.
SESSION = [
    ("power",), ("set_curve", [10, 8, 5, 1]), ("set_stages", [2, 4]), ("set_flow", 2, 9),
    ("total_flow",), ("flow_at", 4), ("power",), ("power_of", []), ("power_of", [1, 2]),
    ("best_stages", 0), ("best_stages", 3), ("best_stages", 5), ("truncate", 3),
    ("reduce_flows", 6), ("set_curve", []), ("set_stages", [LARGEST]), ("power",),
]


class Unchangeable(list):
    """A list that refuses to be changed, for a while either."""

    def refuse(self, *arguments, **named):
        raise AssertionError("the list that was handed in is changed")

    append = clear = extend = insert = pop = remove = reverse = sort = refuse
    __setitem__ = __delitem__ = __iadd__ = __imul__ = refuse


class Examples(unittest.TestCase):
    def test_the_session_of_the_document(self):
        asked = ask(
            ("set_curve", [10, 8, 5, 1]), ("set_stages", [2, 4]), ("best_stages", 1),
            ("best_stages", 2), ("set_curve", [1, 2]),
        )
        self.assertEqual(asked, [[4], [18], [16, 2], [21, 2, 3], [-22]])


class Numbers(unittest.TestCase):
    def test_number_by_number(self):
        calls = [0, 4, 10, 8, 5, 1, 6, 2, 2, 4, 9, 1, 9, 2, 0, 2, 1, 2]
        self.assertEqual(answers(calls), [1, 4, 1, 18, 2, 16, 2, 3, 21, 2, 3, 1, -22])

    def test_the_number_of_each_call(self):
        calls = [0, 3, 9, 6, 3, 1, 3, 1, 2, 2, 3, 1, 4, 5, 2, 6, 1, 2, 7, 8, 2, 1, 2, 9, 1]
        self.assertEqual(answers(calls), [1, 3, 1, 3, 1, 1, 1, 2, 1, 13, 1, 5, 1, 10, 1, 10, 1, 13, 2, 10, 2])

    def test_a_refusal_is_its_code_alone(self):
        calls = [9, 1, 0, 0, 0, 1, 3, 9, 2, 5, 2, 8, 2, 1, 1]
        self.assertEqual(answers(calls), [1, -11, 1, -22, 1, 1, 1, -22, 1, -2, 1, -22])

    def test_empty_lists(self):
        self.assertEqual(answers([0, 1, 5, 6, 0, 8, 0, 0, 0]), [1, 1, 1, 0, 1, 0, 1, -22])

    def test_best_stages_for_0_has_no_grades(self):
        self.assertEqual(answers([0, 1, 5, 9, 0]), [1, 1, 1, 0])

    def test_whole_numbers_in_a_list(self):
        answered = answers(encode(SESSION))
        self.assertIs(type(answered), list)
        self.assertEqual({type(number) for number in answered}, {int})

    def test_lists_of_60_numbers(self):
        calls = [0] + [60] + [1] * 60 + [0, 1, 5] + [6] + [60] + [1] * 60 + [8] + [60] + [1] * 60 + [7]
        self.assertEqual(answers(calls), [1, -22, 1, 1, 1, -22, 1, -22, 1, 0])

    def test_the_largest_number_for_each_number(self):
        asked = ask(
            ("set_curve", [5, 3]), ("set_flow", LARGEST, LARGEST), ("set_flow", 1, LARGEST), ("truncate", LARGEST),
            ("flow_at", LARGEST), ("set_stages", [LARGEST]), ("power_of", [LARGEST]), ("best_stages", LARGEST),
            ("set_curve", [LARGEST]), ("reduce_flows", LARGEST), ("total_flow",),
        )
        self.assertEqual(asked, [[2], [-2], [-22], [-2], [-2], [-22], [-22], [-22], [-22], [8], [0]])


class NothingKept(unittest.TestCase):
    def test_what_is_handed_in_is_not_changed(self):
        calls = encode(SESSION)
        handed_in = Unchangeable(calls)
        self.assertEqual(answers(handed_in), answers(calls))
        self.assertEqual(list(handed_in), encode(SESSION))
        self.assertEqual(calls, encode(SESSION))

    def test_the_same_list_twice_has_the_same_answer(self):
        calls = encode(SESSION)
        first = answers(calls)
        kept = list(first)
        self.assertEqual(answers(calls), kept)
        self.assertEqual(first, kept)

    def test_each_time_the_instance_is_new(self):
        answers(encode(SESSION))
        self.assertEqual(ask(("total_flow",), ("power",)), [[-11], [-11]])
        self.assertEqual(ask(("set_curve", [3]), ("power",)), [[1], [0]])

    def test_an_answer_that_is_changed_changes_no_other(self):
        first = answers([0, 1, 5])
        first.append(7)
        self.assertEqual(answers([0, 1, 5]), [1, 1])


class Delay(unittest.TestCase):
    def check_without_delay(self, calls):
        self.assertEqual(len(calls), 200)
        numbers = encode(calls)
        start = time.perf_counter()
        answers(numbers)
        self.assertLess(time.perf_counter() - start, 1)

    def test_200_times_the_best_stages(self):
        for flows in ([1000] * 16, list(range(16, 0, -1))):
            self.check_without_delay([("set_curve", flows)] + [("best_stages", 5)] * 199)

    def test_200_long_lists(self):
        self.check_without_delay([("set_curve", [9] * 16)] + [("power_of", list(range(1, 61)))] * 199)

    def test_200_changes(self):
        self.check_without_delay([("set_curve", [1000] * 16)] + [("reduce_flows", 1), ("power",)] * 99 + [("power",)])


if __name__ == "__main__":
    unittest.main()

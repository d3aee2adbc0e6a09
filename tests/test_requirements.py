"""Best stages and best moves against a plain search, and requirements 1 to 4."""

import itertools
import unittest

from tests.session import LARGEST, ask, power_by_grade, searched, searched_improvement, searched_moves, stage_sets

# Requests are kept to the 200 calls that the document allows.
MOST_CALLS = 200


def curves(grade_count, highest):
    """All steam curves with this many grades and flows from 0 to highest."""
    return itertools.combinations_with_replacement(range(highest, -1, -1), grade_count)


def small_curves():
    for grade_count, highest in ((1, 6), (2, 6), (3, 6), (4, 5), (5, 4), (6, 3), (7, 2), (8, 1)):
        for flows in curves(grade_count, highest):
            yield list(flows)


def large_curves():
    yield [1000] * 16
    yield [0] * 16
    yield list(range(16, 0, -1))
    yield [1000 - 60 * step for step in range(16)]
    yield [1000 // (step + 1) for step in range(16)]
    yield [900] * 5 + [300] * 6 + [77] * 5
    yield [1000, 1000, 513, 512, 511, 300, 299, 299, 150, 149, 80, 80, 79, 3, 1, 0]


def counts(flows):
    return range(min(5, len(flows)) + 1)


class PlainSearch(unittest.TestCase):
    def check(self, flows):
        asked = ask(("set_curve", flows), *[("best_stages", count) for count in counts(flows)])
        self.assertEqual(asked[1:], [searched(flows, count) for count in counts(flows)], flows)

    def test_small_curves(self):
        for flows in small_curves():
            self.check(flows)

    def test_sixteen_grades(self):
        for flows in large_curves():
            self.check(flows)

    def test_curves_with_ties_are_among_them(self):
        tied = 0
        for flows in small_curves():
            for count in counts(flows):
                powers = [power_by_grade(flows, grades) for grades in stage_sets(len(flows), count)]
                if powers.count(max(powers)) > 1:
                    tied += 1
        self.assertGreater(tied, 100)

    def test_apply_best_stages(self):
        for flows in [*small_curves(), *large_curves()]:
            for count in counts(flows):
                best = searched(flows, count)
                asked = ask(("set_curve", flows), ("apply_best_stages", count), ("summary",))
                self.assertEqual(asked[1:], [best[:1], [len(flows)] + flows + [count] + best[1:]])

    def test_reaches_share(self):
        for flows in [*small_curves(), *large_curves()]:
            for count in counts(flows):
                shares = [("reaches_share", count, percent) for percent in range(101)]
                reached = 100 * searched(flows, count)[0]
                results = [[int(reached >= percent * sum(flows))] for percent in range(101)]
                self.assertEqual(ask(("set_curve", flows), *shares)[1:], results, (flows, count))

    def test_best_stage_count(self):
        costs = [*range(20), 1000, LARGEST]
        for flows in [*small_curves(), *[flows[:8] for flows in large_curves()]]:
            powers = [searched(flows, count)[0] for count in range(len(flows) + 1)]
            asked = ask(("set_curve", flows), *[("best_stage_count", cost) for cost in costs])
            for cost, answer in zip(costs, asked[1:]):
                gains = [power - cost * count for count, power in enumerate(powers)]
                count = gains.index(max(gains))
                self.assertEqual(answer, [count, powers[count]], (flows, cost))


class BestMoves(unittest.TestCase):
    def check(self, flows, grades):
        improved = searched_improvement(flows, grades)
        stages = list(grades)
        if improved != [-33]:
            stages[improved[1]] = improved[2]
        asked = ask(("set_curve", flows), ("set_stages", grades), ("improve_stage",), ("summary",))
        self.assertEqual(asked[2:], [improved, [len(flows)] + flows + [len(stages)] + stages], grades)

    def test_every_stage_set_of_small_curves(self):
        for flows in small_curves():
            for count in range(len(flows) + 1):
                for grades in stage_sets(len(flows), count):
                    self.check(flows, grades)

    def test_sixteen_grades(self):
        for flows in large_curves():
            for grades in ([1], [16], [1, 2], [1, 16], [15, 16], [2, 9, 10], [1, 2, 3, 4, 5], list(range(2, 17))):
                self.check(flows, grades)

    def test_tied_moves_are_among_them(self):
        tied_indexes = 0
        tied_grades = 0
        for flows in small_curves():
            for grades in stage_sets(len(flows), 2):
                improved = searched_improvement(flows, grades)
                tied = [move for move in searched_moves(flows, grades) if move[0] == improved[0]]
                tied_indexes += len({index for power, index, grade in tied}) > 1
                tied_grades += len({grade for power, index, grade in tied if index == tied[0][1]}) > 1
        self.assertGreater(tied_indexes, 50)
        self.assertGreater(tied_grades, 50)


class Requirements(unittest.TestCase):
    def all_powers(self, flows, stages):
        powers = []
        for start in range(0, len(stages), MOST_CALLS - 1):
            part = stages[start:start + MOST_CALLS - 1]
            powers.extend(ask(("set_curve", flows), *[("power_of", grades) for grades in part])[1:])
        return [power[0] for power in powers]

    def test_requirement_1(self):
        for flows in small_curves():
            best = ask(("set_curve", flows), *[("best_stages", count) for count in counts(flows)])[1:]
            for count in counts(flows):
                powers = self.all_powers(flows, stage_sets(len(flows), count))
                self.assertEqual(max(powers), best[count][0], (flows, count))

    def test_requirement_2(self):
        for flows in [*small_curves(), *large_curves()]:
            best = [searched(flows, count)[0] for count in counts(flows)]
            asked = ask(("set_curve", flows), *[("marginal_power", count) for count in counts(flows)[1:]])
            marginal = [difference for [difference] in asked[1:]]
            self.assertEqual(marginal, [high - low for low, high in zip(best, best[1:])], flows)
            self.assertEqual(marginal, sorted(marginal, reverse=True), flows)
            self.assertGreaterEqual(min(marginal), 0, flows)

    def test_requirement_3(self):
        for flows in small_curves():
            total = ask(("set_curve", flows), ("total_flow",))[1][0]
            self.assertEqual(total, sum(flows))
            for count in range(len(flows) + 1):
                powers = self.all_powers(flows, stage_sets(len(flows), count))
                self.assertLessEqual(max(powers), total, (flows, count))
            self.assertEqual(powers, [total], flows)

    def test_requirement_3_for_sixteen_grades(self):
        for flows in large_curves():
            every = list(range(1, 17))
            asked = ask(("set_curve", flows), ("power_of", every), ("set_stages", every), ("total_flow",))
            self.assertEqual(asked[1:], [[sum(flows)]] * 3)

    def test_requirement_3_on_a_changed_curve(self):
        for change in (("set_flow", 2, 3), ("reduce_flows", 4), ("truncate", 3)):
            asked = ask(("set_curve", [9, 7, 3, 1]), ("truncate", 3), change, ("power_of", [1, 2, 3]), ("total_flow",))
            self.assertEqual(asked[-2], asked[-1])

    def test_requirement_3_for_unused_power(self):
        for flows in small_curves():
            sets = [grades for count in range(len(flows) + 1) for grades in stage_sets(len(flows), count)]
            for start in range(0, len(sets), 99):
                part = sets[start:start + 99]
                calls = [call for grades in part for call in (("set_stages", grades), ("unused_power",))]
                asked = ask(("set_curve", flows), *calls)[1:]
                for grades, answer in zip(part, asked[1::2]):
                    self.assertEqual(answer, [sum(flows) - power_by_grade(flows, grades)], (flows, grades))
                    self.assertGreaterEqual(answer[0], 0)

    def test_requirement_4(self):
        for flows in small_curves():
            every = range(1, len(flows) + 1)
            for count in range(len(flows)):
                for grades in stage_sets(len(flows), count):
                    added = [grade for grade in every if grade not in grades]
                    calls = [call for grade in added for call in (("set_stages", grades), ("add_stage", grade))]
                    asked = ask(("set_curve", flows), *calls)[1:]
                    for grade, before, after in zip(added, asked[::2], asked[1::2]):
                        self.assertEqual(after, [power_by_grade(flows, sorted(grades + [grade]))])
                        self.assertGreaterEqual(after, before, (flows, grades, grade))

    def test_requirement_4_for_sixteen_grades(self):
        for flows in large_curves():
            for order in (range(1, 17), range(16, 0, -1), (8, 1, 16, 4, 12, 2, 14, 6, 10, 3, 15, 5, 11, 7, 13, 9)):
                powers = ask(("set_curve", flows), *[("add_stage", grade) for grade in order])[1:]
                self.assertEqual(powers, sorted(powers))
                self.assertEqual(powers[-1], [sum(flows)])


class Power(unittest.TestCase):
    def test_the_power_of_every_set(self):
        for flows in curves(4, 4):
            for count in range(5):
                for grades in stage_sets(4, count):
                    asked = ask(("set_curve", list(flows)), ("set_stages", grades), ("power",), ("power_of", grades))
                    self.assertEqual(asked[1:], [[power_by_grade(flows, grades)]] * 3)


if __name__ == "__main__":
    unittest.main()

"""best_stages against a plain search, and requirements 1 and 3."""

import itertools
import unittest

from tests.session import ask

# Requests are kept to the 200 calls that the document allows.
MOST_CALLS = 200


def curves(grade_count, highest):
    """All steam curves with this many grades and flows from 0 to highest."""
    return itertools.combinations_with_replacement(range(highest, -1, -1), grade_count)


def small_curves():
    for grade_count, highest in ((1, 6), (2, 6), (3, 6), (4, 5), (5, 4), (6, 3), (7, 2), (8, 1)):
        for flows in curves(grade_count, highest):
            yield list(flows)


def large_curves():
    yield [1000] * 16
    yield [0] * 16
    yield list(range(16, 0, -1))
    yield [1000 - 60 * step for step in range(16)]
    yield [1000 // (step + 1) for step in range(16)]
    yield [900] * 5 + [300] * 6 + [77] * 5
    yield [1000, 1000, 513, 512, 511, 300, 299, 299, 150, 149, 80, 80, 79, 3, 1, 0]


def stage_sets(grade_count, count):
    """All stage sets with count stages, the lexicographically first one first."""
    return [list(grades) for grades in itertools.combinations(range(1, grade_count + 1), count)]


def power_by_grade(flows, grades):
    """The power, summed grade by grade: each has the flow of the next stage above or at it."""
    total = 0
    for grade in range(1, len(flows) + 1):
        above = [stage for stage in grades if stage >= grade]
        if above:
            total += flows[min(above) - 1]
    return total


def searched(flows, count):
    """The best stages: the power, then the grades, by a search over all sets."""
    best = None
    for grades in stage_sets(len(flows), count):
        power = power_by_grade(flows, grades)
        if best is None or power > best[0]:
            best = [power] + grades
    return best


def counts(flows):
    return range(min(5, len(flows)) + 1)


class PlainSearch(unittest.TestCase):
    def check(self, flows):
        asked = ask(("set_curve", flows), *[("best_stages", count) for count in counts(flows)])
        self.assertEqual(asked[1:], [searched(flows, count) for count in counts(flows)], flows)

    def test_small_curves(self):
        for flows in small_curves():
            self.check(flows)

    def test_sixteen_grades(self):
        for flows in large_curves():
            self.check(flows)

    def test_curves_with_ties_are_among_them(self):
        tied = 0
        for flows in small_curves():
            for count in counts(flows):
                powers = [power_by_grade(flows, grades) for grades in stage_sets(len(flows), count)]
                if powers.count(max(powers)) > 1:
                    tied += 1
        self.assertGreater(tied, 100)


class Requirements(unittest.TestCase):
    def all_powers(self, flows, stages):
        powers = []
        for start in range(0, len(stages), MOST_CALLS - 1):
            part = stages[start:start + MOST_CALLS - 1]
            powers.extend(ask(("set_curve", flows), *[("power_of", grades) for grades in part])[1:])
        return [power[0] for power in powers]

    def test_requirement_1(self):
        for flows in small_curves():
            best = ask(("set_curve", flows), *[("best_stages", count) for count in counts(flows)])[1:]
            for count in counts(flows):
                powers = self.all_powers(flows, stage_sets(len(flows), count))
                self.assertEqual(max(powers), best[count][0], (flows, count))

    def test_requirement_3(self):
        for flows in small_curves():
            total = ask(("set_curve", flows), ("total_flow",))[1][0]
            self.assertEqual(total, sum(flows))
            for count in range(len(flows) + 1):
                powers = self.all_powers(flows, stage_sets(len(flows), count))
                self.assertLessEqual(max(powers), total, (flows, count))
            self.assertEqual(powers, [total], flows)

    def test_requirement_3_for_sixteen_grades(self):
        for flows in large_curves():
            every = list(range(1, 17))
            asked = ask(("set_curve", flows), ("power_of", every), ("set_stages", every), ("total_flow",))
            self.assertEqual(asked[1:], [[sum(flows)]] * 3)

    def test_requirement_3_on_a_changed_curve(self):
        for change in (("set_flow", 2, 3), ("reduce_flows", 4), ("truncate", 3)):
            asked = ask(("set_curve", [9, 7, 3, 1]), ("truncate", 3), change, ("power_of", [1, 2, 3]), ("total_flow",))
            self.assertEqual(asked[-2], asked[-1])


class Power(unittest.TestCase):
    def test_the_power_of_every_set(self):
        for flows in curves(4, 4):
            for count in range(5):
                for grades in stage_sets(4, count):
                    asked = ask(("set_curve", list(flows)), ("set_stages", grades), ("power",), ("power_of", grades))
                    self.assertEqual(asked[1:], [[power_by_grade(flows, grades)]] * 3)


if __name__ == "__main__":
    unittest.main()

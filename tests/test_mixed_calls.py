"""Long lists of calls, all operations mixed, against a plain model of the document's words."""

import unittest

from flashgrades.stages import answers
from tests.session import CALLS, LARGEST, ask, decode, encode, power_by_grade, searched, searched_improvement

MOST_CALLS = 200
SESSIONS = 120


class Refusal(Exception):
    """An error code, as the document names them."""


class Model:
    """The document's words, carried out by going through all sets and all moves."""

    def __init__(self):
        self.flow = {}
        self.stages = set()

    def flows(self):
        return [self.flow[grade] for grade in sorted(self.flow)]

    def grades(self):
        return sorted(self.stages)

    def power_now(self):
        return power_by_grade(self.flows(), self.grades())

    def answer(self, name, *arguments):
        try:
            if name != "set_curve" and not self.flow:
                raise Refusal(-11)
            return getattr(self, name)(*arguments)
        except Refusal as refusal:
            return [refusal.args[0]]

    def need(self, holds, code):
        if not holds:
            raise Refusal(code)

    def need_curve(self, flows):
        self.need(len(flows) in range(1, 17), -22)
        self.need(max(flows) <= 1000, -22)
        self.need(flows == sorted(flows, reverse=True), -22)

    def need_grades(self, grades):
        self.need(grades == sorted(set(grades)), -22)
        self.need(all(grade in self.flow for grade in grades), -22)

    def need_count(self, count, least=0):
        self.need(least <= count <= 5 and count <= len(self.flow), -22)

    def set_curve(self, flows):
        self.need_curve(flows)
        self.flow = dict(enumerate(flows, start=1))
        self.stages = set()
        return [len(flows)]

    def set_flow(self, grade, flow):
        self.need(grade in self.flow, -2)
        self.need_curve([flow if other == grade else self.flow[other] for other in sorted(self.flow)])
        previous = self.flow[grade]
        self.flow[grade] = flow
        return [previous]

    def truncate(self, last_grade):
        self.need(last_grade in self.flow, -2)
        removed = [grade for grade in self.flow if grade > last_grade]
        for grade in removed:
            self.flow.pop(grade)
            self.stages.discard(grade)
        return [len(removed)]

    def reduce_flows(self, amount):
        before = self.total_flow()[0]
        for grade, flow in list(self.flow.items()):
            self.flow[grade] = flow - amount if flow > amount else 0
        return [before - self.total_flow()[0]]

    def total_flow(self):
        return [sum(self.flow.values())]

    def flow_at(self, grade):
        self.need(grade in self.flow, -2)
        return [self.flow[grade]]

    def set_stages(self, grades):
        self.need_grades(grades)
        self.stages = set(grades)
        return self.power()

    def power(self):
        return [self.power_now()]

    def power_of(self, grades):
        self.need_grades(grades)
        return [power_by_grade(self.flows(), grades)]

    def best_stages(self, count):
        self.need_count(count)
        return searched(self.flows(), count)

    def apply_best_stages(self, count):
        self.stages = set(self.best_stages(count)[1:])
        return self.power()

    def marginal_power(self, count):
        self.need_count(count, least=1)
        return [searched(self.flows(), count)[0] - searched(self.flows(), count - 1)[0]]

    def count_stage_sets(self, count):
        self.need_count(count)
        row = [1]
        for grade in self.flow:
            row = [left + right for left, right in zip([0] + row, row + [0])]
        return [row[count]]

    def best_stage_count(self, stage_cost):
        self.need(len(self.flow) <= 8, -75)
        powers = [searched(self.flows(), count)[0] for count in range(len(self.flow) + 1)]
        gains = [power - stage_cost * count for count, power in enumerate(powers)]
        count = gains.index(max(gains))
        return [count, powers[count]]

    def reaches_share(self, count, percent):
        self.need_count(count)
        self.need(percent <= 100, -22)
        return [int(100 * searched(self.flows(), count)[0] >= percent * sum(self.flows()))]

    def improve_stage(self):
        improvement = searched_improvement(self.flows(), self.grades())
        self.need(improvement != [-33], -33)
        power, index, grade = improvement
        self.stages = (self.stages - {self.grades()[index]}) | {grade}
        return improvement

    def add_stage(self, grade):
        self.need(grade in self.flow, -2)
        self.need(grade not in self.stages, -17)
        self.stages.add(grade)
        return self.power()

    def remove_stage(self, index):
        self.need(index in range(len(self.stages)), -2)
        self.stages.remove(self.grades()[index])
        return self.power()

    def unused_power(self):
        return [sum(self.flows()) - self.power_now()]

    def summary(self):
        return [len(self.flow), *self.flows(), len(self.stages), *self.grades()]


class Dice:
    """The same numbers at every run, so that a session that fails can be seen again."""

    def __init__(self, seed):
        self.state = seed * 7919 + 1

    def below(self, limit):
        self.state = (self.state * 6364136223846793005 + 1442695040888963407) % 2 ** 64
        return (self.state >> 33) % limit

    def one_of(self, choices):
        return choices[self.below(len(choices))]

    def curve(self):
        highest = self.one_of((1, 3, 9, 40, 1000))
        grade_count = 1 + self.below(self.one_of((4, 8, 11)))
        flows = sorted([self.below(highest + 1) for grade in range(grade_count)], reverse=True)
        no_curves = [flows + [flows[-1] + 1], [flows[0]] * 60, [1001] + flows, []]
        return self.one_of(no_curves + [flows] * 28)

    def grades(self):
        limit = self.one_of((4, 8, 11))
        grades = sorted({1 + self.below(limit) for grade in range(self.below(limit))})
        return self.one_of([grades] * 8 + [grades + [LARGEST], [0] + grades, grades[::-1]])

    def number(self):
        return self.one_of([0, 1, 2, 3, 4, 5] * 4 + [6, 7, 8, 9, 10, 11, 12, 16, 17, 100, 101, LARGEST])

    def call(self, name):
        if name == "set_curve":
            return (name, self.curve())
        if name in ("set_stages", "power_of"):
            return (name, self.grades())
        if name == "set_flow":
            return (name, 1 + self.below(6), self.below(self.one_of((4, 10, 40, 1002))))
        if name == "reaches_share":
            return (name, self.below(6), self.one_of([self.below(102), self.number()]))
        if name == "reduce_flows":
            return (name, self.one_of([0, 1, 1, 1, 2, 5, self.number()]))
        if name == "truncate":
            return (name, self.one_of([self.below(12), 11, 10, 9, 8, 7, 6]))
        if name in ("total_flow", "power", "improve_stage", "unused_power", "summary"):
            return (name,)
        return (name, self.number())

    def session(self):
        names = list(CALLS)
        # set_curve takes all stages away, so it comes less often than the others.
        often = names[1:] * 2 + ["set_curve", "set_stages", "improve_stage", "improve_stage", "add_stage", "add_stage"]
        calls = [self.call(self.one_of(often)) for place in range(MOST_CALLS)]
        # Without a curve all are refused alike, so a first one comes before long.
        calls[self.below(20)] = self.call("set_curve")
        return calls


def sessions():
    return [Dice(seed).session() for seed in range(SESSIONS)]


class MixedCalls(unittest.TestCase):
    def test_against_the_model(self):
        for seed, calls in enumerate(sessions()):
            model = Model()
            asked = ask(*calls)
            for place, call in enumerate(calls):
                self.assertEqual(asked[place], model.answer(*call), (seed, place, call))

    def test_the_summary_behind_every_call(self):
        for calls in sessions()[:20]:
            model = Model()
            asked = ask(*[each for call in calls[:MOST_CALLS // 2] for each in (call, ("summary",))])
            for place, call in enumerate(calls[:MOST_CALLS // 2]):
                expected = [model.answer(*call), model.answer("summary")]
                self.assertEqual(asked[2 * place:2 * place + 2], expected, (place, call))

    def test_the_list_is_as_it_was_and_the_second_asking_answers_the_same(self):
        for calls in sessions():
            numbers = encode(calls)
            handed_in = list(numbers)
            first = answers(handed_in)
            self.assertEqual(handed_in, numbers)
            self.assertEqual(answers(handed_in), first)
            self.assertEqual(handed_in, numbers)

    def test_each_session_is_as_if_alone(self):
        alone = [ask(*calls) for calls in sessions()[:20]]
        self.assertEqual([ask(*calls) for calls in reversed(sessions()[:20])], alone[::-1])

    def test_every_call_and_every_error_is_among_them(self):
        answered = {}
        for calls in sessions():
            for call, answer in zip(calls, decode(answers(encode(calls)))):
                kind = answer[0] if answer[0] < 0 else 0
                answered[call[0], kind] = answered.get((call[0], kind), 0) + 1
        errors = {
            "set_curve": [-22], "set_flow": [-11, -2, -22], "truncate": [-11, -2], "flow_at": [-11, -2],
            "set_stages": [-11, -22], "power_of": [-11, -22], "best_stages": [-11, -22],
            "apply_best_stages": [-11, -22], "marginal_power": [-11, -22], "count_stage_sets": [-11, -22],
            "best_stage_count": [-11, -75], "reaches_share": [-11, -22], "improve_stage": [-11, -33],
            "add_stage": [-11, -2, -17], "remove_stage": [-11, -2],
        }
        expected = {(name, kind) for name in CALLS for kind in [0, *errors.get(name, [-11])]}
        self.assertEqual(set(answered), expected)
        self.assertGreaterEqual(min(answered.values()), 10, answered)


if __name__ == "__main__":
    unittest.main()

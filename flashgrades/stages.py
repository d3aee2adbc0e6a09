"""The calls on one instance: each is read, carried out and answered in numbers."""

from flashgrades.curves import are_stages, best_count_over, best_move_over, best_power_over
from flashgrades.curves import best_stages_over, is_curve, power_over, stage_set_count

NO_CURVE = -11
NOT_THERE = -2
OUT_OF_RANGE = -22
STAGE_THERE = -17
NO_BETTER_MOVE = -33
TOO_MANY_GRADES = -75

MOST_STAGES = 5
MOST_PERCENT = 100
# best_stage_count alone has this limit, in the place of MOST_STAGES.
MOST_GRADES_TO_COUNT = 8

# The one call that needs no curve.
SET_CURVE = 0


class Instance:
    """What the calls keep: a steam curve and the current stages."""

    def __init__(self):
        # A curve has at least one grade, so no flows stands for no curve.
        self.flows = []
        self.stages = []

    def has_curve(self):
        return len(self.flows) > 0

    def has_grade(self, grade):
        return 1 <= grade <= len(self.flows)

    def allows_count(self, count):
        return count <= MOST_STAGES and count <= len(self.flows)

    def stages_power(self):
        return power_over(self.flows, self.stages)


# Each operation takes the instance and the numbers of its call, and answers a
# list: what the call answers, or its error code alone. It refuses before it
# changes anything, so that a refused call leaves the instance as it was.


def set_curve(instance, numbers):
    if not is_curve(numbers):
        return [OUT_OF_RANGE]
    instance.flows = list(numbers)
    instance.stages = []
    return [len(instance.flows)]


def set_flow(instance, numbers):
    grade = numbers[0]
    if not instance.has_grade(grade):
        return [NOT_THERE]
    changed = list(instance.flows)
    changed[grade - 1] = numbers[1]
    if not is_curve(changed):
        return [OUT_OF_RANGE]
    previous = instance.flows[grade - 1]
    instance.flows = changed
    return [previous]


def truncate(instance, numbers):
    last_grade = numbers[0]
    if not instance.has_grade(last_grade):
        return [NOT_THERE]
    removed_count = len(instance.flows) - last_grade
    instance.flows = instance.flows[:last_grade]
    instance.stages = [grade for grade in instance.stages if grade <= last_grade]
    return [removed_count]


def reduce_flows(instance, numbers):
    amount = numbers[0]
    before = sum(instance.flows)
    instance.flows = [max(0, flow - amount) for flow in instance.flows]
    return [before - sum(instance.flows)]


def total_flow(instance, numbers):
    return [sum(instance.flows)]


def flow_at(instance, numbers):
    grade = numbers[0]
    if not instance.has_grade(grade):
        return [NOT_THERE]
    return [instance.flows[grade - 1]]


def set_stages(instance, numbers):
    if not are_stages(numbers, len(instance.flows)):
        return [OUT_OF_RANGE]
    instance.stages = list(numbers)
    return [instance.stages_power()]


def power(instance, numbers):
    return [instance.stages_power()]


def power_of(instance, numbers):
    if not are_stages(numbers, len(instance.flows)):
        return [OUT_OF_RANGE]
    return [power_over(instance.flows, numbers)]


def best_stages(instance, numbers):
    count = numbers[0]
    if not instance.allows_count(count):
        return [OUT_OF_RANGE]
    return best_stages_over(instance.flows, count)


def apply_best_stages(instance, numbers):
    count = numbers[0]
    if not instance.allows_count(count):
        return [OUT_OF_RANGE]
    instance.stages = best_stages_over(instance.flows, count)[1:]
    return [instance.stages_power()]


def marginal_power(instance, numbers):
    count = numbers[0]
    if count == 0 or not instance.allows_count(count):
        return [OUT_OF_RANGE]
    return [best_power_over(instance.flows, count) - best_power_over(instance.flows, count - 1)]


def count_stage_sets(instance, numbers):
    count = numbers[0]
    if not instance.allows_count(count):
        return [OUT_OF_RANGE]
    return [stage_set_count(len(instance.flows), count)]


def best_stage_count(instance, numbers):
    if len(instance.flows) > MOST_GRADES_TO_COUNT:
        return [TOO_MANY_GRADES]
    return best_count_over(instance.flows, numbers[0])


def reaches_share(instance, numbers):
    count = numbers[0]
    percent = numbers[1]
    if not instance.allows_count(count) or percent > MOST_PERCENT:
        return [OUT_OF_RANGE]
    if 100 * best_power_over(instance.flows, count) >= percent * sum(instance.flows):
        return [1]
    return [0]


def improve_stage(instance, numbers):
    move = best_move_over(instance.flows, instance.stages)
    if not move:
        return [NO_BETTER_MOVE]
    moved = list(instance.stages)
    moved[move[1]] = move[2]
    instance.stages = moved
    return move


def add_stage(instance, numbers):
    grade = numbers[0]
    if not instance.has_grade(grade):
        return [NOT_THERE]
    if grade in instance.stages:
        return [STAGE_THERE]
    instance.stages = sorted(instance.stages + [grade])
    return [instance.stages_power()]


def remove_stage(instance, numbers):
    index = numbers[0]
    if index >= len(instance.stages):
        return [NOT_THERE]
    instance.stages = instance.stages[:index] + instance.stages[index + 1:]
    return [instance.stages_power()]


def unused_power(instance, numbers):
    return [sum(instance.flows) - instance.stages_power()]


def summary(instance, numbers):
    return [len(instance.flows)] + instance.flows + [len(instance.stages)] + instance.stages


OPERATIONS = {
    0: set_curve,
    1: set_flow,
    2: truncate,
    3: reduce_flows,
    4: total_flow,
    5: flow_at,
    6: set_stages,
    7: power,
    8: power_of,
    9: best_stages,
    10: apply_best_stages,
    11: marginal_power,
    12: count_stage_sets,
    13: best_stage_count,
    14: reaches_share,
    15: improve_stage,
    16: add_stage,
    17: remove_stage,
    18: unused_power,
    19: summary,
}

# The calls whose numbers are one list, told behind how many it has.
LIST_CALLS = (0, 6, 8)

# How many numbers each other call has.
NUMBER_COUNTS = {
    1: 2, 2: 1, 3: 1, 4: 0, 5: 1, 7: 0, 9: 1,
    10: 1, 11: 1, 12: 1, 13: 1, 14: 2, 15: 0, 16: 1, 17: 1, 18: 0, 19: 0,
}


def answers(calls):
    """Answer the calls on one new instance, one behind another."""
    instance = Instance()
    answered = []
    position = 0
    while position < len(calls):
        start = numbers_start(calls, position)
        end = start + number_count(calls, position)
        answer = answer_call(instance, calls[position], calls[start:end])
        answered.append(len(answer))
        answered.extend(answer)
        position = end
    return answered


def numbers_start(calls, position):
    """Answer where the numbers of the call at position begin."""
    if calls[position] in LIST_CALLS:
        return position + 2
    return position + 1


def number_count(calls, position):
    """Answer how many numbers the call at position has."""
    if calls[position] in LIST_CALLS:
        return calls[position + 1]
    return NUMBER_COUNTS[calls[position]]


def answer_call(instance, call, numbers):
    """Carry one call out and answer it."""
    if call != SET_CURVE and not instance.has_curve():
        return [NO_CURVE]
    operation = OPERATIONS[call]
    return operation(instance, numbers)

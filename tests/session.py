"""A session on a new instance, told by the calls' names; a plain search to compare with."""

import itertools

from flashgrades.stages import answers

CALLS = {
    "set_curve": 0, "set_flow": 1, "truncate": 2, "reduce_flows": 3, "total_flow": 4,
    "flow_at": 5, "set_stages": 6, "power": 7, "power_of": 8, "best_stages": 9,
    "apply_best_stages": 10, "marginal_power": 11, "count_stage_sets": 12,
    "best_stage_count": 13, "reaches_share": 14, "improve_stage": 15, "add_stage": 16,
    "remove_stage": 17, "unused_power": 18, "summary": 19,
}

LARGEST = 4294967295


def encode(calls):
    """The list of numbers for calls like ("set_flow", 2, 7) or ("set_curve", [3, 1])."""
    numbers = []
    for name, *arguments in calls:
        numbers.append(CALLS[name])
        for argument in arguments:
            if isinstance(argument, list):
                numbers.append(len(argument))
                numbers.extend(argument)
            else:
                numbers.append(argument)
    return numbers


def decode(numbers):
    """One list for each call, out of the list that was answered."""
    split = []
    position = 0
    while position < len(numbers):
        end = position + 1 + numbers[position]
        if end > len(numbers):
            raise AssertionError(f"an answer is cut short: {numbers}")
        split.append(numbers[position + 1:end])
        position = end
    return split


def ask(*calls):
    """What each of the calls is answered, on one new instance."""
    split = decode(answers(encode(calls)))
    if len(split) != len(calls):
        raise AssertionError(f"{len(calls)} calls, {len(split)} answers")
    return split


def ask_last(*calls):
    """What the last of the calls is answered."""
    return ask(*calls)[-1]


def state_questions(grade_count):
    """Calls that show the curve and the current stages, one in the way of another."""
    flows = [("flow_at", grade) for grade in range(1, grade_count + 2)]
    return [("summary",), ("total_flow",), ("power",), ("unused_power",)] + flows


def stage_sets(grade_count, count):
    """All stage sets with count stages, the lexicographically first one first."""
    return [list(grades) for grades in itertools.combinations(range(1, grade_count + 1), count)]


def power_by_grade(flows, grades):
    """The power, summed grade by grade: each has the flow of the next stage above or at it."""
    total = 0
    for grade in range(1, len(flows) + 1):
        above = [stage for stage in grades if stage >= grade]
        if above:
            total += flows[min(above) - 1]
    return total


def searched(flows, count):
    """The best stages: the power, then the grades, by a search over all sets."""
    best = None
    for grades in stage_sets(len(flows), count):
        power = power_by_grade(flows, grades)
        if best is None or power > best[0]:
            best = [power] + grades
    return best


def searched_moves(flows, grades):
    """All moves of one stage: power, index, grade; lower index, then lower grade first."""
    moves = []
    for index in range(len(grades)):
        for grade in range(1, len(flows) + 1):
            moved = grades[:index] + [grade] + grades[index + 1:]
            ascending = all(low < high for low, high in zip(moved, moved[1:]))
            if grade != grades[index] and ascending:
                moves.append([power_by_grade(flows, moved), index, grade])
    return moves


def searched_improvement(flows, grades):
    """What improve_stage answers, by a search over all moves."""
    moves = searched_moves(flows, grades)
    most = max([power_by_grade(flows, grades)] + [move[0] for move in moves])
    if most == power_by_grade(flows, grades):
        return [-33]
    return [move for move in moves if move[0] == most][0]

"""Steam curves and stages: what counts as one, their power, the best stages."""

MOST_GRADES = 16
MOST_FLOW = 1000


def is_curve(flows):
    """Tell whether flows is a steam curve."""
    if not 1 <= len(flows) <= MOST_GRADES:
        return False
    limit = MOST_FLOW
    for flow in flows:
        if not 0 <= flow <= limit:
            return False
        limit = flow
    return True


def are_stages(grades, grade_count):
    """Tell whether grades is strictly ascending, from 1 to grade_count."""
    below = 0
    for grade in grades:
        if not below < grade <= grade_count:
            return False
        below = grade
    return True


def power_over(flows, grades):
    """Answer the power of the stages at these grades."""
    power = 0
    below = 0
    for grade in grades:
        power += (grade - below) * flows[grade - 1]
        below = grade
    return power


def best_stages_over(flows, count):
    """Answer the power of the best stages for count, then their grades."""
    # tails[below] is the best way to place the stages that lie above the grade
    # below: their power, then their grades. It is built from the top stage down,
    # as the power of the stages above depends on one stage beneath them alone.
    tails = [[0] for below in range(len(flows) + 1)]
    for placed in range(count):
        # One more stage needs one more grade above it, so the tails get fewer.
        tails = [best_tail(flows, below, tails) for below in range(len(tails) - 1)]
    return tails[0]


def best_tail(flows, below, tails):
    """Answer the best way to place one stage above below, and a tail above it."""
    best = []
    for grade in range(below + 1, len(tails)):
        power = (grade - below) * flows[grade - 1] + tails[grade][0]
        # Only more power wins: of equals the first, with the lowest grade, stays.
        if not best or power > best[0]:
            best = [power, grade] + tails[grade][1:]
    return best


def best_power_over(flows, count):
    """Answer the power of the best stages for count."""
    return best_stages_over(flows, count)[0]


def stage_set_count(grade_count, count):
    """Answer how many stage sets with count stages there are."""
    number = 1
    for chosen in range(count):
        # Each product is a number of sets times chosen + 1, so nothing is cut off.
        number = number * (grade_count - chosen) // (chosen + 1)
    return number


def best_count_over(flows, stage_cost):
    """Answer the number of stages that pays most at this cost, then its power."""
    best_count = 0
    best_power = 0
    for count in range(1, len(flows) + 1):
        power = best_power_over(flows, count)
        # Only a greater gain wins: of equals the smaller number stays.
        if power - stage_cost * count > best_power - stage_cost * best_count:
            best_count = count
            best_power = power
    return [best_count, best_power]


def best_move_over(flows, grades):
    """Answer the power, index and grade of the best move, or [] if none increases the power."""
    best = []
    most = power_over(flows, grades)
    for index in range(len(grades)):
        for grade in free_grades(grades, index, len(flows)):
            power = power_over(flows, grades[:index] + [grade] + grades[index + 1:])
            # Only more power wins: of equals the lower index, then the lower grade stays.
            if power > most:
                most = power
                best = [power, index, grade]
    return best


def free_grades(grades, index, grade_count):
    """Answer the other grades, ascending, that the stage at index can be moved to."""
    below = 0
    above = grade_count + 1
    if index > 0:
        below = grades[index - 1]
    if index + 1 < len(grades):
        above = grades[index + 1]
    return [grade for grade in range(below + 1, above) if grade != grades[index]]

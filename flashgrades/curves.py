"""Steam curves and stages: what counts as one, their power, the best stages."""

MOST_GRADES = 16
MOST_FLOW = 1000


def is_curve(flows):
    """Tell whether flows is a steam curve."""
    if not 1 <= len(flows) <= MOST_GRADES:
        return False
    limit = MOST_FLOW
    for flow in flows:
        if not 0 <= flow <= limit:
            return False
        limit = flow
    return True


def are_stages(grades, grade_count):
    """Tell whether grades is strictly ascending, from 1 to grade_count."""
    below = 0
    for grade in grades:
        if not below < grade <= grade_count:
            return False
        below = grade
    return True


def power_over(flows, grades):
    """Answer the power of the stages at these grades."""
    power = 0
    below = 0
    for grade in grades:
        power += (grade - below) * flows[grade - 1]
        below = grade
    return power


def best_stages_over(flows, count):
    """Answer the power of the best stages for count, then their grades."""
    # tails[below] is the best way to place the stages that lie above the grade
    # below: their power, then their grades. It is built from the top stage down,
    # as the power of the stages above depends on one stage beneath them alone.
    tails = [[0] for below in range(len(flows) + 1)]
    for placed in range(count):
        # One more stage needs one more grade above it, so the tails get fewer.
        tails = [best_tail(flows, below, tails) for below in range(len(tails) - 1)]
    return tails[0]


def best_tail(flows, below, tails):
    """Answer the best way to place one stage above below, and a tail above it."""
    best = []
    for grade in range(below + 1, len(tails)):
        power = (grade - below) * flows[grade - 1] + tails[grade][0]
        # Only more power wins: of equals the first, with the lowest grade, stays.
        if not best or power > best[0]:
            best = [power, grade] + tails[grade][1:]
    return best

"""The greatest mean of the rounds in a net of points, and numbers that show that none is greater.

Points are numbered from 0. A net is a list with the lines of each point, one or more: tuples (weight, the point to
which the line leads, a step, which is whatever the caller wants back). A round is a list of lines, each one from
where the one before it leads to, and the first one from where the last one leads to. A mean is a tuple (p, q).
"""

from math import gcd


def mean_of(weights):
    """The mean of a list of one or more integers, in lowest terms."""
    total = sum(weights)
    common = gcd(total, len(weights))
    return total // common, len(weights) // common


def greatest_round(net):
    """(mean, round, numbers): a round with the greatest mean, and a list of numbers of all points for it.

    No weight is below 0. For each line, q times its weight and the number where it leads to are together at most p
    and the number where it begins. So no round has a greater mean: along it the numbers cancel each other.
    """
    # Each round has a greater mean than this one, so the first try finds one.
    mean = (-1, 1)
    best = []
    numbers, rounds = _tried(net, mean)
    while rounds:
        for lines in rounds:
            found = mean_of([weight for (weight, after, step) in lines])
            if _is_greater(found, mean):
                mean = found
                best = lines
        numbers, rounds = _tried(net, mean)
    return mean, best, numbers


def _is_greater(one, other):
    return one[0] * other[1] > other[0] * one[1]


def _tried(net, mean):
    """(numbers, []) if there are numbers for the mean, else ([], some rounds that all have a greater mean).

    Each number is raised as far as one of the lines asks for, until none asks for more. As long as the lines that
    asked last lead round, along them more than the mean is gained, and the numbers would be raised for ever.
    """
    numbers = [0] * len(net)
    asking = [None] * len(net)
    while _raise_once(net, mean, numbers, asking):
        rounds = _rounds_of(asking)
        if rounds:
            return [], rounds
    return numbers, []


def _raise_once(net, mean, numbers, asking):
    """Raise each number once as far as can be; True if one was raised."""
    p, q = mean
    raised = False
    for point, lines in enumerate(net):
        for line in lines:
            asked = q * line[0] - p + numbers[line[1]]
            if asked > numbers[point]:
                numbers[point] = asked
                asking[point] = line
                raised = True
    return raised


def _rounds_of(asking):
    """All rounds of the lines, of which each point has one at most; None is in place of a line that there is not."""
    walked = [None] * len(asking)
    rounds = []
    for start in range(len(asking)):
        point = start
        while point is not None and walked[point] is None:
            walked[point] = start
            point = _next_point(asking, point)
        if point is not None and walked[point] == start:
            rounds.append(_round_from(asking, point))
    return rounds


def _next_point(asking, point):
    line = asking[point]
    return None if line is None else line[1]


def _round_from(asking, start):
    lines = [asking[start]]
    while lines[-1][1] != start:
        lines.append(asking[lines[-1][1]])
    return lines

"""The search, step by step, for all that comes of a beginning."""

from nextalive.errors import TooMany


def ways_from(start, next_of, *, limit=None):
    """All that comes of the start in any number of steps, itself too, as a dict in the row in which it is found.

    next_of gives the list of tuples (step, what is there behind it). What takes fewer steps is found first. The values
    are tuples (number of steps, what the last step led from, the last step). Raises TooMany(limit) if there are more
    than limit things.
    """
    ways = {start: (0, None, None)}
    level = [start]
    number = 0
    while level:
        number += 1
        following = []
        for thing in level:
            for step, after in next_of(thing):
                if after not in ways:
                    ways[after] = (number, thing, step)
                    following.append(after)
            # A level may be many times as long as the limit, so this is not put off to its end.
            if limit is not None and len(ways) > limit:
                raise TooMany(limit)
        level = following
    return ways


def steps_to(ways, thing):
    """The list of the steps from the start to a thing that was found, as few as can be."""
    steps = []
    _, before, step = ways[thing]
    while before is not None:
        steps.append(step)
        _, before, step = ways[before]
    return steps[::-1]


def keeps_steps(kept, steps):
    """True if all that the steps, tuples (step, what is there behind it), lead to is among what is kept, a dict."""
    return all([after in kept for _, after in steps])

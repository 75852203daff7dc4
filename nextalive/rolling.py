"""Rolling upkeep: each machine falls once or more often, and all stays light (points 22 and 23)."""

from nextalive.lots import is_lot
from nextalive.pictures import NOWHERE, beginning, is_picture, load_in, pictures_through
from nextalive.runs import is_history
from nextalive.search import keeps_steps, steps_to, ways_from
from nextalive.steps import Steps


def is_calm(house, picture):
    """True if no machine has a load above its strength in the picture."""
    strengths = house.strengths()
    return all([load_in(house, picture, machine) <= strength for machine, strength in enumerate(strengths)])


def is_light(house, picture):
    """True if the picture is calm and no service is nowhere."""
    return NOWHERE not in picture[1] and is_calm(house, picture)


def rolling(house, most, *, limit=4000):
    """("yes", a shortest rolling history within most), or ("no", a barring list)."""
    start = (beginning(house), ())
    if not is_light(house, start[0]):
        return "no", []
    steps = LightSteps(house, most)
    ways = ways_from(start, steps.next_of, limit=limit)
    # Standings come in the row in which they were found, so the first one has the fewest events.
    for standing in ways:
        if _is_over(house, standing):
            return "yes", steps_to(ways, standing)
    return "no", list(ways)


def is_rolling(house, most, value):
    """True if any value is a rolling history of the house within most."""
    if not is_history(house, value, most=most):
        return False
    pictures = pictures_through(house, value)
    fallen = sorted(set([machine for word, machine in value if word == "fall"]))
    return _is_over(house, (pictures[-1], tuple(fallen))) and all([is_light(house, picture) for picture in pictures])


def is_barring(house, most, value):
    """True if any value is a barring list of the house for most."""
    if not isinstance(value, list):
        return False
    start = (beginning(house), ())
    if not is_light(house, start[0]):
        return len(value) == 0
    kept = {}
    for standing in value:
        if not _is_standing(house, standing) or standing in kept:
            return False
        if not is_light(house, standing[0]) or _is_over(house, standing):
            return False
        kept[standing] = True
    if start not in kept:
        return False
    steps = LightSteps(house, most)
    return all([keeps_steps(kept, steps.next_of(standing)) for standing in value])


class LightSteps:
    """The steps from standing to standing: the events behind which the picture is light."""

    def __init__(self, house, most):
        self._house = house
        self._steps = Steps(house, most)
        self._light = {}

    def next_of(self, standing):
        """The list of tuples (event, the standing behind it) for any standing of the house."""
        picture, done = standing
        return [(event, (after, _done_behind(done, event)))
                for event, after in self._steps.next_of(picture) if self._is_light(after)]

    def _is_light(self, picture):
        # The same picture comes with many tuples of machines that fell.
        if picture not in self._light:
            self._light[picture] = is_light(self._house, picture)
        return self._light[picture]


def _done_behind(done, event):
    word, machine = event
    if word == "fall" and machine not in done:
        return tuple(sorted([*done, machine]))
    return done


def _is_over(house, standing):
    """True if all machines live and each one fell."""
    (down, _), done = standing
    return len(down) == 0 and len(done) == len(house)


def _is_standing(house, value):
    if not isinstance(value, tuple) or len(value) != 2:
        return False
    picture, done = value
    if not is_picture(house, picture) or not is_lot(done, len(house)):
        return False
    return all([machine in done for machine in picture[0]])

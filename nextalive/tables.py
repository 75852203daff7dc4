"""The table of all pictures to which histories lead, and lists of pictures that are closed (point 14)."""

from nextalive.pictures import beginning, is_picture
from nextalive.search import keeps_steps, steps_to, ways_from
from nextalive.steps import Steps


class Table:
    """The ends of all histories of a house within most."""

    def __init__(self, house, most, *, limit=400):
        steps = Steps(house, most)
        self._house = house
        self._ways = ways_from(beginning(house), steps.next_of, limit=limit)

    def pictures(self):
        """The ascending list of the pictures."""
        return sorted(self._ways)

    def number_of(self, picture):
        """The least number of events to the picture; None for any value that is no picture of the table."""
        # True == 1, so only a value that is a picture may be looked up.
        if not is_picture(self._house, picture) or picture not in self._ways:
            return None
        return self._ways[picture][0]

    def run_to(self, picture):
        """A shortest history within most that ends with a picture of the table."""
        return steps_to(self._ways, picture)


def is_closed(house, most, value):
    """True if any value is a closed list of pictures of the house."""
    if not isinstance(value, list):
        return False
    kept = {}
    for picture in value:
        if not is_picture(house, picture) or picture in kept:
            return False
        kept[picture] = True
    if beginning(house) not in kept:
        return False
    steps = Steps(house, most)
    return all([keeps_steps(kept, steps.next_of(picture)) for picture in value])

"""What events make of pictures, worked out once for each event and place and looked up from then on."""

from nextalive.pictures import NOWHERE, down_behind, place_behind


class Steps:
    """The steps of a house: the events behind which at most most machines are down."""

    def __init__(self, house, most):
        self._machines = len(house)
        self._services = house.services()
        self._most = most
        self._kept = {}

    def next_of(self, picture):
        """The list of tuples (event, the picture behind it) for any picture of the house."""
        down, places = picture
        if down not in self._kept:
            self._kept[down] = self._rows_at(down)
        found = []
        for event, left, tables in self._kept[down]:
            found.append((event, (left, tuple([table[place] for table, place in zip(tables, places)]))))
        return found

    def _rows_at(self, down):
        rows = []
        for machine in range(self._machines):
            event = ("rise" if machine in down else "fall", machine)
            left = down_behind(down, event)
            if len(left) <= self._most:
                rows.append((event, left, [_table_of(service, down, event, left) for service in self._services]))
        return rows


class PairSteps:
    """The steps of two houses that are led at once."""

    def __init__(self, one, two, most):
        self._one = Steps(one, most)
        self._two = Steps(two, most)

    def next_of(self, pair):
        """The list of tuples (event, the pair of pictures behind it); both pictures have the same machines down."""
        one, two = pair
        ones = self._one.next_of(one)
        twos = self._two.next_of(two)
        return [(event, (left, right)) for (event, left), (_, right) in zip(ones, twos)]


def _table_of(service, down, event, left):
    """The place behind the event for each place that the service can have ahead of it."""
    living = [machine for machine in service[1] if machine not in down]
    return {place: place_behind(service, place, event, left) for place in [NOWHERE, *living]}

"""A house that is led by events and by new orders of its services (point 18)."""

from nextalive.errors import NothingDone
from nextalive.leading import fall_of, rise_of
from nextalive.pictures import beginning, first_living, load_in, picture_behind
from nextalive.surges import surge_from
from nextalive.worst import worst_load


class Desk:
    """A house that is led, from the beginning on."""

    def __init__(self, house, most):
        self._house = house
        self._most = most
        self._picture = beginning(house)
        # What was ahead of each change that is not undone: the house and the picture.
        self._past = []

    def __len__(self):
        return len(self._past)

    def house_now(self):
        """The house with the orders as they are now."""
        return self._house

    def picture(self):
        """The picture now."""
        return self._picture

    def load(self, machine):
        """The load of the machine now."""
        return load_in(self._house, self._picture, machine)

    def fall(self, machine):
        """Let a living machine fall."""
        self._lead(fall_of(self._house, self._picture[0], machine, self._most))

    def rise(self, machine):
        """Let a machine that is down rise."""
        self._lead(rise_of(self._house, self._picture[0], machine))

    def rewrite(self, service, order):
        """Give the service this order; it goes at once to the first living machine of it."""
        house = self._house.with_order(service, order)
        down, places = self._picture
        self._change(house, (down, (*places[:service], first_living(order, down), *places[service + 1:])))

    def undo(self):
        """Undo the last change that is not undone."""
        if not self._past:
            raise NothingDone()
        self._house, self._picture = self._past.pop()

    def moved(self, service):
        """The number of changes, of those that are not undone, that moved the service."""
        places = [picture[1][service] for _, picture in self._past] + [self._picture[1][service]]
        return len([1 for place, after in zip(places, places[1:]) if place != after])

    def worst_here(self, machine):
        """(load, events): the greatest load that the machine can have from here, and the events that lead to it."""
        load, events = worst_load(self._house, machine, self._most)
        return load, [*self._way_back(machine), *events]

    def surge_here(self, machines):
        """(rounds, picture) for a surge from the picture now; all stays as it is."""
        return surge_from(self._house, self._picture, machines)

    def fork(self):
        """A new desk that stands as this one does and goes its own way."""
        other = Desk(self._house, self._most)
        other._picture = self._picture
        other._past = list(self._past)
        return other

    def _lead(self, event):
        self._change(self._house, picture_behind(self._house, self._picture, event))

    def _change(self, house, picture):
        self._past.append((self._house, self._picture))
        self._house = house
        self._picture = picture

    def _way_back(self, machine):
        """The events behind which all machines live and no service has to come to the machine from behind it.

        From there on the events that lead from the beginning to the greatest load lead to it, too: services that do
        not stay are at their homes, and those that stay are at the machine or ahead of it. As long as the machine
        lives, none of them gets behind it again.
        """
        events = [("rise", other) for other in self._picture[0]]
        picture = self._picture
        for event in events:
            picture = picture_behind(self._house, picture, event)
        for place in _places_behind(self._house.services(), picture[1], machine):
            events.extend([("fall", place), ("rise", place)])
        return events


def _places_behind(rows, places, machine):
    """The ascending list of the places of services that have the machine ahead of where they are; none is nowhere."""
    pairs = [(order, place) for (weight, order, rule), place in zip(rows, places)]
    return sorted(set([place for order, place in pairs if machine in order[:order.index(place)]]))

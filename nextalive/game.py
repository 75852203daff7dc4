"""Carries, and the game between the events and the steerer who carries behind each of them (points 26 and 27)."""

from nextalive.errors import TooMany
from nextalive.pictures import NOWHERE
from nextalive.steps import Steps


def carries_in(rows, picture):
    """All carries that can follow from a picture, for a list of services: None, then the tuples in ascending order."""
    down, places = picture
    found = [None]
    for service, place in enumerate(places):
        if place != NOWHERE:
            order = rows[service][1]
            found.extend([(service, other) for other in sorted(order) if other != place and other not in down])
    return found


def carried(picture, carry):
    """The picture behind a carry."""
    if carry is None:
        return picture
    down, places = picture
    service, machine = carry
    return down, (*places[:service], machine, *places[service + 1:])


class Game:
    """The calm pictures of a house, the events within most behind them, and the carries that make all calm again."""

    def __init__(self, house, most):
        self._rows = house.services()
        self._strengths = house.strengths()
        self._steps = Steps(house, most)
        # For each picture behind an event, the calm ones behind carries.
        self._calm = {}
        # For each calm picture that was judged, whether the steerer can keep the house from it on.
        self._judged = {}

    def events_at(self, picture):
        """The list of tuples (event, the picture behind it) for any picture of the house."""
        return self._steps.next_of(picture)

    def calm_behind(self, picture):
        """The list of the calm pictures behind all carries that can follow from any picture of the house."""
        if picture not in self._calm:
            self._calm[picture] = self._find_calm(picture)
        return self._calm[picture]

    def is_calm(self, picture):
        """True if no machine has a load above its strength in any picture of the house."""
        return min(self._spare_in(picture)) >= 0

    def calm_from(self, start, *, limit=None):
        """The list of all calm pictures that come of a calm one, itself too, save those that were judged by now.

        They come by events within most, each with any carry. Raises TooMany(limit) if there are more than limit.
        """
        found = [start]
        known = {start: True}
        passed = {}
        at = 0
        while at < len(found):
            picture = found[at]
            for _, after in self.events_at(picture):
                # Many events lead to the same picture.
                if after not in passed:
                    passed[after] = True
                    found.extend(self._newly_met(self.calm_behind(after), known))
            if limit is not None and len(found) > limit:
                raise TooMany(limit)
            at += 1
        return found

    def lost_among(self, pictures):
        """The pictures from which the steerer cannot keep the house, as a dict to tuples (rank, event).

        The pictures are as calm_from tells them. Behind the event each carry leads to a picture that is not calm,
        or to one that is lost, too: to one with a lesser rank, or to one that was judged so before.
        """
        comers, left, ways_in = self._ways_among(pictures)
        lost = {}
        hopeless = [after for after in left if left[after] == 0]
        while hopeless:
            after = hopeless.pop()
            for picture, event in comers[after]:
                if picture not in lost:
                    lost[picture] = (len(lost), event)
                    for other in ways_in.get(picture, []):
                        left[other] -= 1
                        if left[other] == 0:
                            hopeless.append(other)
        return lost

    def can_keep(self, picture):
        """True if any picture of the house is calm, and the steerer can keep the house from it on."""
        if not self.is_calm(picture):
            return False
        if picture not in self._judged:
            pictures = self.calm_from(picture)
            lost = self.lost_among(pictures)
            for one in pictures:
                self._judged[one] = one not in lost
        return self._judged[picture]

    def _newly_met(self, pictures, known):
        """Those of different pictures that are neither known, which they are from now on, nor judged."""
        fresh = [picture for picture in pictures if picture not in known and picture not in self._judged]
        for picture in fresh:
            known[picture] = True
        return fresh

    def _ways_among(self, pictures):
        """(comers, left, ways_in): what lost_among goes back along, as three dicts.

        For each picture behind an event: the tuples (picture ahead of it, event), and how many calm pictures behind
        carries are not lost. For each calm picture: the pictures behind events from which a carry leads to it.
        """
        comers = {}
        left = {}
        ways_in = {}
        for picture in pictures:
            for event, after in self.events_at(picture):
                if after not in comers:
                    comers[after] = []
                    hopeful = [calm for calm in self.calm_behind(after) if self._judged.get(calm, True)]
                    left[after] = len(hopeful)
                    for calm in hopeful:
                        ways_in.setdefault(calm, []).append(after)
                comers[after].append((picture, event))
        return comers, left, ways_in

    def _find_calm(self, picture):
        spare = self._spare_in(picture)
        carries = carries_in(self._rows, picture)
        return [carried(picture, carry) for carry in carries if self._calms(spare, picture, carry)]

    def _calms(self, spare, picture, carry):
        """True if all is calm behind the carry, for what the machines can still bear ahead of it."""
        if carry is None:
            return min(spare) >= 0
        service, machine = carry
        weight = self._rows[service][0]
        changed = list(spare)
        changed[picture[1][service]] += weight
        changed[machine] -= weight
        return min(changed) >= 0

    def _spare_in(self, picture):
        """The list of what the machines can still bear in the picture; below 0 for those that bear too much."""
        spare = list(self._strengths)
        for row, place in zip(self._rows, picture[1]):
            if place != NOWHERE:
                spare[place] -= row[0]
        return spare

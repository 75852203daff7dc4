"""Runs of a house through events, and histories."""

from nextalive.errors import NoFall, NoRise
from nextalive.pictures import beginning, can_come, can_fall, can_rise, down_behind, load_in, picture_behind


class Run:
    """A house that is led by events, from the beginning on."""

    def __init__(self, house):
        self.house = house
        self._picture = beginning(house)
        self._events = []

    def fall(self, machine):
        """Let a living machine fall."""
        if not can_fall(self.house, self._picture[0], machine):
            raise NoFall(machine)
        self._lead(("fall", machine))

    def rise(self, machine):
        """Let a machine that is down rise."""
        if not can_rise(self.house, self._picture[0], machine):
            raise NoRise(machine)
        self._lead(("rise", machine))

    def picture(self):
        """The picture now."""
        return self._picture

    def load(self, machine):
        """The load of the machine now."""
        return load_in(self.house, self._picture, machine)

    def events(self):
        """The list of the events so far."""
        return list(self._events)

    def fork(self):
        """A new run that stands as this one does and goes its own way."""
        other = Run(self.house)
        other._picture = self._picture
        other._events = list(self._events)
        return other

    def _lead(self, event):
        self._picture = picture_behind(self.house, self._picture, event)
        self._events.append(event)


def run_of(house, history):
    """The run behind a history of the house."""
    run = Run(house)
    for word, machine in history:
        if word == "fall":
            run.fall(machine)
        else:
            run.rise(machine)
    return run


def is_history(house, value, *, most=5):
    """True if any value is a history of the house within most."""
    if not isinstance(value, list):
        return False
    down = ()
    for event in value:
        if not can_come(house, down, event):
            return False
        down = down_behind(down, event)
        if len(down) > most:
            return False
    return True

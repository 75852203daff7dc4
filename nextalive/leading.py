"""What lets a machine of a led house fall or rise (points 18 and 26)."""

from nextalive.errors import NoFall, NoRise, TooManyDown
from nextalive.pictures import can_fall, can_rise


def fall_of(house, down, machine, most):
    """The event with which a machine, any value, falls while just these are down, which at most most may be."""
    if not can_fall(house, down, machine):
        raise NoFall(machine)
    if len(down) >= most:
        raise TooManyDown(most)
    return "fall", machine


def rise_of(house, down, machine):
    """The event with which a machine, any value, rises while just these are down."""
    if not can_rise(house, down, machine):
        raise NoRise(machine)
    return "rise", machine

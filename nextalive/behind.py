"""Where a service can be while just some machines are down, and settled houses (points 10 and 11)."""

from nextalive.errors import NoWay
from nextalive.lots import lots_up_to
from nextalive.pictures import NOWHERE
from nextalive.ways import ahead_of, led_through


def behind(house, service, down, most):
    """The ascending list of the places of the service at the ends of histories within most with just these down."""
    _, order, rule = house.services()[service]
    living = [machine for machine in order if machine not in down]
    if not living:
        return [NOWHERE]
    if rule == "first" or (rule == "home" and living[0] == order[0]):
        return [living[0]]
    return sorted([machine for machine in living if len(ahead_of(order, machine)) <= most])


def history_to(house, service, down, place, most):
    """A shortest history within most that ends with just these machines down and the service at the place."""
    if place not in behind(house, service, down, most):
        raise NoWay(None)
    # The service stays at the place when machines ahead of it rise again: with the rule "first" and for NOWHERE
    # there are none that do, and with the rule "home" its home is not one of them.
    return led_through([ahead_of(house.services()[service][1], place), down])


def is_settled(house, most):
    """True if histories within most that end with the same machines down have the same end."""
    return unsettled(house, most) is None


def unsettled(house, most):
    """None if the house is settled; else the first service that is not, with two histories that show it."""
    for service in range(len(house.services())):
        for down in lots_up_to(len(house), most):
            places = behind(house, service, down, most)
            if len(places) > 1:
                first = history_to(house, service, down, places[0], most)
                return service, first, history_to(house, service, down, places[1], most)
    return None

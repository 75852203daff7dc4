"""Where a service can be, and with how many events (point 9)."""

from nextalive.errors import NoWay
from nextalive.pictures import NOWHERE
from nextalive.ways import ahead_of, led_through


def can_be(house, service, place, most):
    """True if the service can be at the place behind some history within most."""
    needed = least_events(house, service, place)
    return needed is not None and needed <= most


def least_events(house, service, place):
    """The least number of events behind which the service can be there, None if it never can."""
    order = _order_of(house, service)
    if place != NOWHERE and place not in order:
        return None
    return len(ahead_of(order, place))


def way_to(house, service, place, most):
    """A shortest history within most at whose end the service is there."""
    needed = least_events(house, service, place)
    if needed is None or needed > most:
        # The machines of a shortest history are all down at its end, so its length is also the number it needs.
        raise NoWay(needed)
    return led_through([ahead_of(_order_of(house, service), place)])


def _order_of(house, service):
    return house.services()[service][1]

"""Ways: the machines that have to fall for a place, and the events that let them fall."""

from nextalive.pictures import NOWHERE


def ahead_of(order, place):
    """The machines of the order ahead of the place, in its row: all of them for NOWHERE."""
    if place == NOWHERE:
        return order
    return order[:order.index(place)]


def led_through(targets):
    """The events from the beginning on with which, one after the other, just the machines of each target are down.

    From one target to the next the risings come first, so more machines are never down than one of both has.
    """
    events = []
    down = ()
    for target in targets:
        events.extend([("rise", machine) for machine in down if machine not in target])
        events.extend([("fall", machine) for machine in target if machine not in down])
        down = target
    return events

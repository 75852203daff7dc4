"""How often a service moves (point 16)."""

from nextalive.errors import NoWay
from nextalive.pictures import NOWHERE, down_behind, place_behind


def moves(house, service, history):
    """The number of events of the history that move the service."""
    row = house.services()[service]
    down = ()
    place = row[1][0]
    number = 0
    for event in history:
        down = down_behind(down, event)
        after = place_behind(row, place, event, down)
        if after != place:
            number += 1
        place = after
    return number


def most_moves(house, service, events, most):
    """The greatest number of moves of the service in a history of so many events within most."""
    _check_events(events, most)
    _, order, rule = house.services()[service]
    if rule == "stay" and len(order) > most and events > most:
        return (events + most) // 2
    return events


def moving(house, service, events, most):
    """A history of so many events within most that moves the service as often as can be."""
    _check_events(events, most)
    row = house.services()[service]
    home = row[1][0]
    down = ()
    place = home
    history = []
    for _ in range(events):
        event = _next_event(home, down, place, most)
        down = down_behind(down, event)
        place = place_behind(row, place, event, down)
        history.append(event)
    return history


def _check_events(events, most):
    if most == 0 and events > 0:
        raise NoWay(1)


def _next_event(home, down, place, most):
    if place != NOWHERE and len(down) < most:
        return "fall", place
    # The home calls back each service that can be called back at all.
    machine = home if home in down else down[0]
    return "rise", machine

"""Pictures of a house, and what events make of them.

A picture is a tuple (down, places). These functions follow points 5 to 8 from any picture,
also from one that is not the end of a history, and change nothing.
"""

from nextalive.houses import is_machine, is_whole
from nextalive.lots import is_lot

NOWHERE = -1


def beginning(house):
    """The picture in which all machines are alive and all services at home."""
    return (), tuple([order[0] for (weight, order, rule) in house.services()])


def first_living(order, down):
    """The first machine of the order that is not down, or NOWHERE."""
    for machine in order:
        if machine not in down:
            return machine
    return NOWHERE


def is_picture(house, value):
    """True if any value is a picture of the house, also one that is the end of no history."""
    if not isinstance(value, tuple) or len(value) != 2:
        return False
    down, places = value
    return is_lot(down, len(house)) and _are_places(house.services(), down, places)


def can_fall(house, down, value):
    """True if any value is a machine that lives when just these are down."""
    return is_machine(value, len(house)) and value not in down


def can_rise(house, down, value):
    """True if any value is a machine that is down when just these are."""
    return is_machine(value, len(house)) and value in down


def can_come(house, down, value):
    """True if any value is an event that can come when just these machines are down."""
    if not isinstance(value, tuple) or len(value) != 2:
        return False
    word, machine = value
    if word == "fall":
        return can_fall(house, down, machine)
    return word == "rise" and can_rise(house, down, machine)


def down_behind(down, event):
    """The ascending tuple of the machines that are down behind the event."""
    word, machine = event
    if word == "fall":
        return tuple(sorted([*down, machine]))
    return tuple([other for other in down if other != machine])


def place_behind(service, place, event, left):
    """The place of a service behind an event behind which just the machines in left are down."""
    word, machine = event
    _, order, rule = service
    if word == "fall":
        return first_living(order, left) if place == machine else place
    if machine not in order:
        return place
    if place == NOWHERE:
        return machine
    if rule == "first" and order.index(machine) < order.index(place):
        return machine
    if rule == "home" and machine == order[0]:
        return machine
    return place


def picture_behind(house, picture, event):
    """The picture behind an event that can come next."""
    down, places = picture
    left = down_behind(down, event)
    pairs = list(zip(house.services(), places))
    return left, tuple([place_behind(service, place, event, left) for service, place in pairs])


def pictures_through(house, events):
    """The list of the pictures of the beginning and behind each of the events of a history."""
    found = [beginning(house)]
    for event in events:
        found.append(picture_behind(house, found[-1], event))
    return found


def load_in(house, picture, machine):
    """The sum of the weights of the services at the machine."""
    places = picture[1]
    return sum([service[0] for service, place in zip(house.services(), places) if place == machine])


def _are_places(services, down, value):
    if not isinstance(value, tuple) or len(value) != len(services):
        return False
    return all([_is_place(service[1], down, place) for service, place in zip(services, value)])


def _is_place(order, down, value):
    return is_whole(value) and (value == NOWHERE or (value in order and value not in down))

"""How much weight is moved in the long run (points 24 and 25)."""

from nextalive.errors import NoWay
from nextalive.houses import is_whole
from nextalive.means import greatest_round, mean_of
from nextalive.pictures import picture_behind, pictures_through
from nextalive.runs import is_history, run_of
from nextalive.steps import Steps
from nextalive.tables import Table


def weight_moved(house, picture, event):
    """The weight that an event moves that can come next behind a picture of the house."""
    return _weight_between(house.services(), picture, picture_behind(house, picture, event))


def tour_mean(house, tour):
    """The mean (p, q) of the weight that the events of the second list of a tour move, in lowest terms."""
    history, events = tour
    rows = house.services()
    pictures = pictures_through(house, history + events)[len(history):]
    return mean_of([_weight_between(rows, ahead, after) for ahead, after in zip(pictures, pictures[1:])])


def is_tour(house, most, value):
    """True if any value is a tour of the house within most."""
    if not isinstance(value, tuple) or len(value) != 2:
        return False
    history, events = value
    if not isinstance(history, list) or not isinstance(events, list) or len(events) == 0:
        return False
    if not is_history(house, history + events, most=most):
        return False
    return run_of(house, history).picture() == run_of(house, history + events).picture()


def busiest(house, most, *, limit=400):
    """(mean, tour, numbers): the greatest mean of the tours within most, a tour with it, and numbers for it."""
    if most == 0:
        raise NoWay(1)
    table = Table(house, most, limit=limit)
    pictures = table.pictures()
    mean, lines, numbers = greatest_round(_net_of(house, most, pictures))
    # A line leads to the point from which the next one begins.
    start = pictures[lines[-1][1]]
    tour = (table.run_to(start), [event for (weight, after, event) in lines])
    return mean, tour, {picture: number for picture, number in zip(pictures, numbers)}


def are_numbers(house, most, mean, value, *, limit=400):
    """True if any value is numbers for the mean (p, q)."""
    table = Table(house, most, limit=limit)
    pictures = table.pictures()
    if not isinstance(value, dict) or len(value) != len(pictures):
        return False
    # True == 1, so it does not suffice that the pictures of the table are keys: each key is looked at itself.
    for picture, number in value.items():
        if table.number_of(picture) is None or not is_whole(number):
            return False
    numbers = [value[picture] for picture in pictures]
    p, q = mean
    for point, lines in enumerate(_net_of(house, most, pictures)):
        for weight, after, _ in lines:
            if q * weight + numbers[after] > p + numbers[point]:
                return False
    return True


def _net_of(house, most, pictures):
    """For each picture the list of tuples (weight moved, place in the list of the picture behind it, event)."""
    rows = house.services()
    steps = Steps(house, most)
    places = {picture: place for place, picture in enumerate(pictures)}
    net = []
    for picture in pictures:
        steps_on = steps.next_of(picture)
        net.append([(_weight_between(rows, picture, after), places[after], event) for event, after in steps_on])
    return net


def _weight_between(rows, picture, after):
    """The sum of the weights of the services whose places in the two pictures differ."""
    return sum([row[0] for row, one, other in zip(rows, picture[1], after[1]) if one != other])

"""Short forms of services, and what tells two houses apart (point 15)."""

from nextalive.errors import Unlike
from nextalive.houses import House
from nextalive.pictures import beginning
from nextalive.search import steps_to, ways_from
from nextalive.steps import PairSteps


def short_form(house, service, most):
    """(order, rule): all of the service that can be seen within most."""
    _, order, rule = house.services()[service]
    kept = order[:most + 1]
    if len(kept) == 1 or (rule == "home" and len(kept) == 2):
        return kept, "first"
    return kept, rule


def parting(house, other, most):
    """None if the houses are alike for most, else a shortest history that ends with different pictures in them."""
    sizes = _sizes_of(other)
    if sizes != _sizes_of(house):
        raise Unlike(sizes)
    best = None
    for service in range(len(house.services())):
        history = _parting_of(_alone(house, service), _alone(other, service), most)
        if history is not None and (best is None or len(history) < len(best)):
            best = history
    return best


def _sizes_of(house):
    return len(house), len(house.services())


def _alone(house, service):
    """The house with this service only: pictures differ where a place does, so each service is led by itself."""
    return House(house.strengths(), [house.services()[service]])


def _parting_of(one, two, most):
    steps = PairSteps(one, two, most)
    ways = ways_from((beginning(one), beginning(two)), steps.next_of)
    # Pairs come in the row in which they were found, so the first one has the fewest events.
    for pair in ways:
        if pair[0] != pair[1]:
            return steps_to(ways, pair)
    return None

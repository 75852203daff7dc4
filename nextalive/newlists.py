"""Orders for new services, and orders that make a house safe (points 12 and 13)."""

from nextalive.bars import heaviest, purse_for
from nextalive.houses import MOST_WEIGHT, House
from nextalive.lots import all_lots, orders_of
from nextalive.worst import unsafe, worst_load


def fitting(house, weight, rule, most):
    """The first order with which such a service can be put into the house so that it is safe; None if there is none."""
    if unsafe(house, most) is not None:
        return None
    # The order has most + 1 machines at most, and no other machine's load is changed by the service.
    for order in orders_of(len(house), min(len(house), most + 1)):
        if weight <= _free_weight(house, order, rule, most):
            return order
    return None


def room(house, order, rule, most):
    """The greatest weight with which such a service fits at the machines where it can be; 0 if there is none."""
    return min(MOST_WEIGHT, _free_weight(house, order, rule, most))


def mending(house, service, most):
    """The first order with which, in place of the service's own one, the house is safe; None if there is none."""
    rows = house.services()
    weight, _, rule = rows[service]
    return fitting(House(house.strengths(), rows[:service] + rows[service + 1:]), weight, rule, most)


def _free_weight(house, order, rule, most):
    """The greatest weight for which the machines where the service can be bear it; 0 if there is none."""
    return min([_free_at(house, machine, order, rule, most) for machine in order[:most + 1]])


def _free_at(house, machine, order, rule, most):
    strength = house.strengths()[machine]
    if worst_load(house, machine, most)[0] > strength:
        return 0
    number = len(house.services())
    # Weighed as nothing, the service tells how heavy the others can be that are there with it.
    rows = [*house.services(), (0, order, rule)]
    lots = [lot for lot in all_lots(len(rows)) if number in lot]
    return strength - heaviest(rows, machine, lots, purse_for(len(house), most))[0]

"""Orders told back from what was seen, and from logs (points 19 and 20).

An order here is one of all machines. That one machine is ahead of another one in it follows from each thing seen in
which the one is the place while the other one is alive; nothing else follows.
"""

from nextalive.lots import orders_of
from nextalive.pictures import down_behind, first_living, place_behind


def order_of(machines, seen):
    """("yes", the first order that fits), or ("no", a ring of things seen that no order fits)."""
    ahead = _ahead(machines, seen)
    for order in orders_of(machines, machines):
        if _fits(order, ahead):
            return "yes", order
    return "no", _ring(machines, ahead)


def orders(machines, seen):
    """The number of orders that fit."""
    return len(_fitting_orders(machines, seen))


def next_at(machines, seen, down):
    """The ascending list of the first machines that are not in down, of all orders that fit."""
    return sorted(set([first_living(order, down) for order in _fitting_orders(machines, seen)]))


def order_of_log(machines, rule, log):
    """("yes", the first order that fits the log with this rule), or ("no", the least number of rows that none fits)."""
    place, rows = log
    fitting = [order for order in orders_of(machines, machines) if order[0] == place]
    checked = {}
    down = ()
    for number, (event, after) in enumerate(rows, start=1):
        down = down_behind(down, event)
        # A long log tells the same few things many times.
        if (place, event, down, after) not in checked:
            checked[(place, event, down, after)] = True
            fitting = [order for order in fitting if place_behind((1, order, rule), place, event, down) == after]
            if not fitting:
                return "no", number
        place = after
    return "yes", fitting[0]


def _ahead(machines, seen):
    """A dict from tuples (machine, another one that is behind it) to the number of the first thing that tells so."""
    found = {}
    for number, (down, place) in enumerate(seen):
        for other in range(machines):
            if other != place and other not in down and (place, other) not in found:
                found[(place, other)] = number
    return found


def _fits(order, ahead):
    return all([order.index(one) < order.index(other) for one, other in ahead])


def _fitting_orders(machines, seen):
    ahead = _ahead(machines, seen)
    return [order for order in orders_of(machines, machines) if _fits(order, ahead)]


def _ring(machines, ahead):
    """A ring, where no order fits."""
    inner = _ring_and_behind(machines, ahead)
    row = [inner[0]]
    while row[-1] not in row[:-1]:
        # Each of these machines has another one of them ahead of it, so the row leads back until it meets itself.
        row.append([one for one in inner if (one, row[-1]) in ahead][0])
    ring = row[row.index(row[-1]):][::-1]
    return [(ahead[(one, other)], one, other) for one, other in zip(ring, ring[1:])]


def _ring_and_behind(machines, ahead):
    """The machines that are left when, again and again, those with none of them ahead are taken away."""
    left = list(range(machines))
    kept = []
    while kept != left:
        kept = left
        left = [one for one in kept if any([(other, one) in ahead for other in kept])]
    return left

"""What stands against services being together at a machine (points 12 and 21).

A purse tells which machines may be down at once. A number of machines is a purse, too: each machine costs 1 there.
Services are told by their numbers in a list of services, which is rows here.
"""

from nextalive.lots import is_lot
from nextalive.ways import ahead_of, led_through


class Purse:
    """The prices of the machines, and what those that are down may cost at most."""

    def __init__(self, prices, most):
        self._prices = list(prices)
        self._most = most

    def holds(self, machines):
        """True if all of these machines, each told once, may be down."""
        return sum([self._prices[machine] for machine in machines]) <= self._most


def purse_for(machines, most):
    """The purse that lets at most most of so many machines be down."""
    return Purse([1] * machines, most)


def gathered(rows, machine, services, purse):
    """("yes", a history at whose end these services are at the living machine), or ("no", a bar among them)."""
    for number in services:
        if _is_far(rows[number], machine, purse):
            return "no", ("far", (number,))
    held = _held([rows[number] for number in services], machine)
    if not purse.holds(held):
        return "no", ("many", tuple([number for number in services if rows[number][2] != "stay"]))
    comers, stuck = _row_of_comers(rows, machine, services, purse)
    if stuck:
        return "no", ("stuck", stuck)
    staying = [ahead_of(rows[number][1], machine) for number in services if rows[number][2] == "stay"]
    coming = [_down_for(rows, machine, number, comers[:at]) for at, number in enumerate(comers)]
    # Those that stay come first, as nothing brings them away. The home of one that came is in all later targets.
    return "yes", led_through([*staying, *coming, held])


def bar_stands(rows, machine, purse, value):
    """True if any value is a bar for the machine and the purse."""
    if not isinstance(value, tuple) or len(value) != 2:
        return False
    word, numbers = value
    if not is_lot(numbers, len(rows)) or len(numbers) == 0:
        return False
    lot = [rows[number] for number in numbers]
    if word == "far":
        return len(lot) == 1 and _is_far(lot[0], machine, purse)
    if word == "many":
        return _can_be_many(lot, machine) and not purse.holds(_held(lot, machine))
    if word == "stuck":
        return _can_be_stuck(lot, machine) and _last_comer(rows, machine, numbers, purse) is None
    return False


def heaviest(rows, machine, lots, purse):
    """(load, history) for the heaviest of these lots that can be together at the machine; (0, []) if none can."""
    weighed = [(sum([rows[number][0] for number in lot]), lot) for lot in lots]
    for load, lot in sorted(weighed, reverse=True):
        word, found = gathered(rows, machine, lot, purse)
        if word == "yes":
            return load, found
    return 0, []


def _is_far(row, machine, purse):
    order = row[1]
    return machine not in order or not purse.holds(ahead_of(order, machine))


def _can_be_many(lot, machine):
    return all([machine in order and rule != "stay" for (weight, order, rule) in lot])


def _can_be_stuck(lot, machine):
    return all([machine in order[1:] and rule == "home" for (weight, order, rule) in lot])


def _held(lot, machine):
    """The machines that are down whenever all these services are at the machine, which is in all their orders."""
    found = []
    for _, order, rule in lot:
        if rule == "first":
            found.extend(list(ahead_of(order, machine)))
        elif rule == "home" and order[0] != machine:
            found.append(order[0])
    return tuple(sorted(set(found)))


def _down_for(rows, machine, number, others):
    """The machines that are down when the service comes to the machine while the others, there by then, stay."""
    homes = [rows[other][1][0] for other in others]
    ahead = ahead_of(rows[number][1], machine)
    return tuple(sorted(set([*homes, *ahead])))


def _last_comer(rows, machine, numbers, purse):
    """The first of the services that can come behind all the other ones, None if there is none."""
    for number in numbers:
        others = [other for other in numbers if other != number]
        if purse.holds(_down_for(rows, machine, number, others)):
            return number
    return None


def _row_of_comers(rows, machine, services, purse):
    """(row, stuck): the services that go home, in a row in which they can come, and those that are left over.

    Who can come last of all can still do so if fewer come ahead of it, so no choice is ever taken back.
    """
    left = [number for number in services if _can_be_stuck([rows[number]], machine)]
    row = []
    while left:
        last = _last_comer(rows, machine, left, purse)
        if last is None:
            return row, tuple(left)
        left = [number for number in left if number != last]
        row = [last, *row]
    return row, ()
